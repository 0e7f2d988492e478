/- Keys: what word.inKeys and word.Key answer, for every byte and every text. -/
import Derived.Test.YtcmlnelpcjfocaaGreatDoorProg
import Derived.Test.YtcmlnelpcjfocaaGreatDoorWYB
import Derived.Shelf.SlSortCmp.WholeK
import Derived.Test.YtcmlnelpcjfocaaGreatDoorShelfK
import Derived.Maps.OwnSet
set_option linter.unusedSimpArgs false
set_option linter.unusedVariables false
namespace Go.Proofs.YtcmlnelpcjfocaaGreatDoor
open Go.RowKit
theorem tU {a b:Bool} (h:a=b):Ending.returned (.bool a)= .returned (.bool b):=by rw[h]
def eU (c:UInt8):Bool:=decide (97≤(c.toNat:Int)∧(c.toNat:Int)≤122∨65≤(c.toNat:Int)∧(c.toNat:Int)≤90∨48≤(c.toNat:Int)∧(c.toNat:Int)≤57∨(c.toNat:Int)=45)
def cZ (l:List UInt8):Bool:=decide (1≤l.length) && decide (l.length≤20) && l.all eU
def eN (l:List UInt8):Int:=if cZ l=true then 0 else 1
theorem ma {l:List UInt8} (h:cZ l=true):eN l=0:=if_pos h
theorem kG {l:List UInt8} (h:cZ l=false):eN l=1:=if_neg (by rw[h];decide)
theorem tV {l:List UInt8} (h:l.length<1):cZ l=false:=by simp[cZ];omega
theorem tW {l:List UInt8} (h:20<l.length):cZ l=false:=by simp[cZ];omega
theorem tX {l:List UInt8} {k:Nat} (d:k<l.length) (h:eU l[k]=false):cZ l=false:=by
 have:l.all eU=false:=by
  rw[List.all_eq_false];exact⟨l[k],List.getElem_mem d,by simp[h]⟩
 simp[cZ,this]
theorem tY {l:List UInt8} (d: ¬l.length<1) (f: ¬20<l.length) (h:l.all eU=true):cZ l=true:=by
 simp only[cZ,h,Bool.and_true,Bool.and_eq_true,decide_eq_true_eq];omega
theorem tZ {l:List UInt8} {f:UInt8→Bool} {k:Nat} (y:k<l.length) (h:(l.take k).all f=true) (d:f l[k]=true):(l.take (k+1)).all f=true:=by
 rw[List.take_succ_eq_append_getElem y,List.all_append,h];simp[d]
theorem Aa {c:UInt8} (h:97≤(c.toNat:Int)∧(c.toNat:Int)≤122∨65≤(c.toNat:Int)∧(c.toNat:Int)≤90∨48≤(c.toNat:Int)∧(c.toNat:Int)≤57):true=eU c:=by
 rw[eU,eq_comm,decide_eq_true_eq];omega
theorem Ab {c:UInt8} (h: ¬(97≤(c.toNat:Int)∧(c.toNat:Int)≤122∨65≤(c.toNat:Int)∧(c.toNat:Int)≤90∨48≤(c.toNat:Int)∧(c.toNat:Int)≤57)):((c.toNat:Int)==45)=eU c:=by
 rw[eU,Bool.eq_iff_iff,beq_iff_eq,decide_eq_true_eq];omega
set_option maxHeartbeats 400000 in
theorem ub (c:UInt8) (w:World):
    Calls Tryz.prog 170 #[.int .u8 (c.toNat:Int)] w fun e w'=>e= .returned (.bool (eU c))∧w'=w:=by
 go_enter Tryz.func170,Tryz.ntmps170
 go_wp2
 all_goals go_ret
 all_goals first
  |exact⟨tU (Aa (by omega)),rfl⟩
  |exact⟨tU (Ab (by omega)),rfl⟩
set_option maxHeartbeats 800000 in
theorem mc (s:ByteArray) (w:World) (J:s.size≤maxLen):
    Calls Tryz.prog 135 #[.string s] w fun e w'=>e= .returned (.int .i64 (eN s.data.toList))∧w'=w:=by
 unfold maxLen at J;have F:s.data.toList.length=s.size:=Array.length_toList;by_cases K:(s.size:Int)<1
 · rw[kG (tV (by omega))]
   go_enter Tryz.func135,Tryz.ntmps135
   go_wp2_with fail;go_ret;exact⟨rfl,rfl⟩
 by_cases M:20<(s.size:Int)
 · rw[kG (tW (by omega))]
   go_enter Tryz.func135,Tryz.ntmps135
   go_wp2_with fail;go_ret;exact⟨rfl,rfl⟩
 have z:Hid (s.data.toList.length=s.size):=F;have I:Hid (s.data.toList.all eU=true→eN s.data.toList=0):=fun h=>ma (tY (by omega) (by omega) h)
 clear F;go_enter Tryz.func135,Tryz.ntmps135
 go_wp2_with fail;go_loop [14] (fun i=> ∃k:Nat,k≤s.size∧i= .int .i64 k∧(s.data.toList.take k).all eU=true) (fun i=>s.size-(intOf i).toNat)
 case atStart=>exact⟨0,Nat.zero_le _,rfl,by simp⟩
 case round=>
  obtain⟨k,N,rfl,d⟩:=hrel
  have A:Hid ((s.data.toList.take k).all eU=true):=d;clear d;by_cases f:k<s.size
  · cases E:eU s[k]with
    |true=>
     have H:Hid ((s.data.toList.take (k+1)).all eU=true):=tZ (by rw[z.out];exact f) A.out E;go_wp2_with (go_at_call 170;refine(ub _ _).mono ?_;rintro e w' ⟨rfl,rfl⟩)
     go_round
     case rel=>exact⟨k+1,by omega,by go_num,H.out⟩
     case measure=>simp[intOf];omega
    |false=>
     have G:Hid (eN s.data.toList=1):=kG (tX (by rw[z.out];exact f) E);go_wp2_with (go_at_call 170;refine(ub _ _).mono ?_;rintro e w' ⟨rfl,rfl⟩)
     go_ret;exact⟨by rw[G.out];rfl,rfl⟩
  · have y:Hid (eN s.data.toList=0):=I.out (by have:=A.out;rwa [List.take_of_length_le (by rw[z.out];omega)]at this)
    go_wp2_with fail;go_ret;exact⟨by rw[y.out];rfl,rfl⟩
set_option maxHeartbeats 800000 in
theorem nf (s:ByteArray) (w:World) (U:s.size≤maxLen):
    Calls Tryz.prog 35 #[.string s] w fun e w'=>e= .returned (.bool (cZ s.data.toList))∧w'=w:=by
 unfold maxLen at U;have S:s.data.toList.length=s.size:=Array.length_toList;have y:Hid (s.data.toList.length=s.size):=S;clear S;go_enter Tryz.func35,Tryz.ntmps35
 go_wp2_with fail;go_loop [3] (fun i=> ∃k:Nat,k≤s.size∧i= .int .i64 k∧(s.data.toList.take k).all eU=true) (fun i=>s.size-(intOf i).toNat)
 case atStart=>exact⟨0,Nat.zero_le _,rfl,by simp⟩
 case round=>
  obtain⟨k,Z,rfl,f⟩:=hrel
  have K:Hid ((s.data.toList.take k).all eU=true):=f;clear f;by_cases A:k<s.size
  · cases G:eU s[k]with
    |true=>
     have F:Hid ((s.data.toList.take (k+1)).all eU=true):=tZ (by rw[y.out];exact A) K.out G;have z:=of_decide_eq_true G;rcases z with⟨J,Q⟩|⟨J,Q⟩|⟨J,Q⟩|J
     · go_wp2_with fail
       go_round
       case rel=>exact⟨k+1,by omega,by go_num,F.out⟩
       case measure=>simp[intOf];omega
     · have I: ¬97≤(s[k].toNat:Int):=by omega
       go_wp2_with fail;go_round
       case rel=>exact⟨k+1,by omega,by go_num,F.out⟩
       case measure=>simp[intOf];omega
     · have I: ¬97≤(s[k].toNat:Int):=by omega
       have M: ¬65≤(s[k].toNat:Int):=by omega
       go_wp2_with fail;go_round
       case rel=>exact⟨k+1,by omega,by go_num,F.out⟩
       case measure=>simp[intOf];omega
     · have I: ¬97≤(s[k].toNat:Int):=by omega
       have M: ¬65≤(s[k].toNat:Int):=by omega
       have N: ¬48≤(s[k].toNat:Int):=by omega
       go_wp2_with fail;go_round
       case rel=>exact⟨k+1,by omega,by go_num,F.out⟩
       case measure=>simp[intOf];omega
    |false=>
     have E:Hid (cZ s.data.toList=false):=tX (by rw[y.out];exact A) G;have z:=of_decide_eq_false G;have Y:((s[k].toNat:Int)==45)=false:=by simp;omega
     by_cases I:97≤(s[k].toNat:Int)
     · have M: ¬(s[k].toNat:Int)≤122:=by omega
       have N:65≤(s[k].toNat:Int):=by omega
       have T: ¬(s[k].toNat:Int)≤90:=by omega
       have O:48≤(s[k].toNat:Int):=by omega
       have P: ¬(s[k].toNat:Int)≤57:=by omega
       clear z;go_wp2_with fail;go_ret;exact⟨by rw[E.out];rfl,rfl⟩
     by_cases N:65≤(s[k].toNat:Int)
     · have T: ¬(s[k].toNat:Int)≤90:=by omega
       have O:48≤(s[k].toNat:Int):=by omega
       have P: ¬(s[k].toNat:Int)≤57:=by omega
       clear z;go_wp2_with fail;go_ret;exact⟨by rw[E.out];rfl,rfl⟩
     by_cases O:48≤(s[k].toNat:Int)
     · have P: ¬(s[k].toNat:Int)≤57:=by omega
       clear z;go_wp2_with fail;go_ret;exact⟨by rw[E.out];rfl,rfl⟩
     · clear z
       go_wp2_with fail;go_ret;exact⟨by rw[E.out];rfl,rfl⟩
  · have H:=hid (show s.data.toList.all eU=true from by have:=K.out;rwa [List.take_of_length_le (by rw[y.out];omega)]at this)
    by_cases V:1≤(s.size:Int)
    · by_cases X:(s.size:Int)≤20
      · have d:Hid (cZ s.data.toList=true):=tY (by rw[y.out];omega) (by rw[y.out];omega) H.out
        go_wp2_with fail;go_ret;exact⟨by rw[d.out];rfl,rfl⟩
      · have d:Hid (cZ s.data.toList=false):=tW (by rw[y.out];omega)
        go_wp2_with fail;go_ret;exact⟨by rw[d.out];rfl,rfl⟩
    · have d:Hid (cZ s.data.toList=false):=tV (by rw[y.out];omega)
      go_wp2_with fail;go_ret;exact⟨by rw[d.out];rfl,rfl⟩
end Go.Proofs.YtcmlnelpcjfocaaGreatDoor
namespace Go.Proofs.YtcmlnelpcjfocaaGreatDoor
open Go.RowKit
set_option maxHeartbeats 400000 in
theorem ud (s:ByteArray) (w:World) (y:s.size≤1000000000000000) (h:az s.data.toList=0):
    Calls Tryz.prog 193 #[.string s] w fun e w'=>e= .returned (.tuple #[.string s,.int .i64 0])∧Below w.heap.size w w':=by
 have f:Hid (az s.data.toList=0):=h;clear h;go_enter Tryz.func193,Tryz.ntmps193
 go_wp2_with fail;refine(fQ _ _ y).mono ?_
 rintro e z ⟨rfl,d⟩;rw[f.out];go_wp2;go_ret2;exact⟨rfl,d⟩
set_option maxHeartbeats 400000 in
theorem Ac (s:ByteArray) (w:World) (f:s.size≤1000000000000000) (h: ¬az s.data.toList=0):
    Calls Tryz.prog 193 #[.string s] w fun e w'=>e= .returned (.tuple #[.string ⟨#[]⟩,.int .i64 (az s.data.toList)])∧Below w.heap.size w w':=by
 have y:(az s.data.toList==0)=false:=by simpa using h
 clear h;go_enter Tryz.func193,Tryz.ntmps193
 go_wp2_with fail;refine(fQ _ _ f).mono ?_
 rintro e z ⟨rfl,d⟩;go_wp2;go_ret2;exact⟨rfl,d⟩
set_option maxHeartbeats 400000 in
theorem Ad (s t:ByteArray) (w:World) (y:s.size≤1000000000000000) (z:t.size≤1000000000000000):
    Calls Tryz.prog 194 #[.string s,.string t] w fun e w'=>e= .returned (.string ⟨(kD s.data.toList t.data.toList).toArray⟩)∧w'=w:=by
 cases d:s.toList.isEmpty with
 |true=>
  have f:=hid (show⟨(kD s.data.toList t.data.toList).toArray⟩=t from by rw[Lib.toList_data,List.isEmpty_iff]at d;rw[kD,if_pos d]);go_enter Tryz.func194,Tryz.ntmps194
  go_wp2;go_ret;exact⟨by rw[f.out];rfl,rfl⟩
 |false=>
  have f:=hid (show s++⟨#[47]⟩++t=⟨(kD s.data.toList t.data.toList).toArray⟩from dN (by
   rw[Lib.toList_data]at d;rw[Joins.data_append,Joins.data_append,kD,if_neg (by intro h;rw[h]at d;cases d)];simp))
  go_enter Tryz.func194,Tryz.ntmps194
  go_wp2;go_ret;exact⟨by rw[←f.out];rfl,rfl⟩
def iI (w:World) (b o:Nat) (c:ay):Prop:=w.cell? ⟨b,o,none⟩=some (.int .i64 c.k)∧w.cell? ⟨b,o+1,none⟩=some (.string c.p)∧w.cell? ⟨b,o+2,none⟩=some (.string c.q)∧w.cell? ⟨b,o+3,none⟩=some (.string c.t)∧w.cell? ⟨b,o+4,none⟩=some (.int .i64 c.b)
def cj (w:World) (v:Value) (cs:List ay):Prop:= ∃a cap,v= .slice a cs.length cap∧cs.length≤cap∧cs.length≤1000000000000000∧ ∀i (h:i<cs.length),∃b o,a=some ⟨b,o,none⟩∧b<w.heap.size∧iI w b (o+i*5) cs[i]
theorem iI.below {w w':World} {b o:Nat} {c:ay} (h:iI w b o c) (hb:b<w.heap.size) (d:Below w.heap.size w w'):iI w' b o c:=
 ⟨(d.cell (p:=⟨b,o,none⟩) hb).trans h.1,(d.cell (p:=⟨b,o+1,none⟩) hb).trans h.2.1,(d.cell (p:=⟨b,o+2,none⟩) hb).trans h.2.2.1,(d.cell (p:=⟨b,o+3,none⟩) hb).trans h.2.2.2.1,(d.cell (p:=⟨b,o+4,none⟩) hb).trans h.2.2.2.2⟩
theorem cj.below {w w':World} {v:Value} {cs:List ay} (h:cj w v cs) (f:Below w.heap.size w w'):cj w' v cs:=by
 obtain⟨a,d,H,y,z,A⟩:=h
 refine⟨a,d,H,y,z,fun i G=>?_⟩
 obtain⟨b,o,E,hb,F⟩:=A i G
 exact⟨b,o,E,Nat.lt_of_lt_of_le hb f.size,F.below hb f⟩
def lo (B:Nat) (cs:List ay):Prop:= ∀c∈cs,c.p.size≤B∧c.q.size≤B∧c.t.size≤B
def dG (n:Int):List En→List ay→Nat×Int×List En
 |T,[]=>(0,0,T)
 |T,c::r=>if bX T c n=0 then((dG n (cQ T c n) r).1+1,(dG n (cQ T c n) r).2)else(0,bX T c n,[])
def Pp.Left (n:Int) (L:List En) (cs:List ay) (S:List En) (k:Nat):Prop:=dG n L cs=((dG n S (cs.drop k)).1+k,(dG n S (cs.drop k)).2)
theorem Pp.left_zero (n:Int) (L:List En) (cs:List ay):Pp.Left n L cs L 0:=rfl
theorem Pp.left_next {n:Int} {L:List En} {cs:List ay} {S:List En} {k:Nat} (h:Pp.Left n L cs S k) (f:k<cs.length) (d:bX S cs[k] n=0):Pp.Left n L cs (cQ S cs[k] n) (k+1):=by
 rw[Pp.Left]at h⊢;rw[List.drop_eq_getElem_cons f,dG,if_pos d]at h;rw[h];simp only[Prod.mk.injEq,and_true];omega
theorem ue {n:Int} {L:List En} {cs:List ay} {S:List En} {k:Nat} (h:Pp.Left n L cs S k) (f:k<cs.length) (d: ¬bX S cs[k] n=0):dG n L cs=(k,bX S cs[k] n,[]):=by
 rw[Pp.Left,List.drop_eq_getElem_cons f,dG,if_neg d]at h;rw[h];simp
theorem Pp.left_end {n:Int} {L:List En} {cs:List ay} {S:List En} (h:Pp.Left n L cs S cs.length):dG n L cs=(cs.length,0,S):=by
 rw[Pp.Left,List.drop_length,dG]at h;rw[h];simp
end Go.Proofs.YtcmlnelpcjfocaaGreatDoor
namespace Go.Proofs.YtcmlnelpcjfocaaGreatDoor
open Go.RowKit
def cF (L:List En) (cs:List ay) (n:Int):Int:=if¬aH L=0 then aH L else if 20<cs.length then 2 else(dG n L cs).2.1
def jS (L:List En) (cs:List ay) (n:Int):Nat:=if¬aH L=0 then 0 else if 20<cs.length then 0 else(dG n L cs).1
def dQ (L:List En) (cs:List ay) (n:Int):List En:=if¬aH L=0 then[]else if 20<cs.length then[]else(dG n L cs).2.2
theorem pX {L:List En} (h: ¬aH L=0) (cs:List ay) (n:Int):cF L cs n=aH L∧jS L cs n=0∧dQ L cs n=[]:=⟨if_pos h,if_pos h,if_pos h⟩
theorem oa {L:List En} (h:aH L=0) {cs:List ay} (d:20<cs.length) (n:Int):cF L cs n=2∧jS L cs n=0∧dQ L cs n=[]:=
 ⟨by rw[cF,if_neg (fun x=>x h),if_pos d],by rw[jS,if_neg (fun x=>x h),if_pos d],by rw[dQ,if_neg (fun x=>x h),if_pos d]⟩
theorem pY {L:List En} (h:aH L=0) {cs:List ay} (d: ¬20<cs.length) {n:Int} {k:Nat} {e:Int} {R:List En} (f:dG n L cs=(k,e,R)):cF L cs n=e∧jS L cs n=k∧dQ L cs n=R:=
 ⟨by rw[cF,if_neg (fun x=>x h),if_neg d,f],by rw[jS,if_neg (fun x=>x h),if_neg d,f],by rw[dQ,if_neg (fun x=>x h),if_neg d,f]⟩
theorem Ae (n:Int) (L:List En):dG n L []=(0,0,L):=rfl
end Go.Proofs.YtcmlnelpcjfocaaGreatDoor
namespace Go.Proofs.YtcmlnelpcjfocaaGreatDoor
theorem ng {R:List En} (z:R.Pairwise (fun x y=>Pp.lt x y=true)) {x:En} (A:x∈R) {p:List UInt8} (f:x.path.data.toList=p) (d:x.folder=true):aP R p=0:=by
 subst f;rw[aP];split
 · rfl
 · rw[tO z A];simp[d]
theorem pZ (L:List En):aP L []=0:=by rw[aP,if_pos rfl]
theorem uh {l p:List UInt8} (h:aU (aC l) p=true) (f:aC l≠[]):aU l p=true:=by
 by_cases d:47∈l
 · obtain⟨a,b,hb,e⟩:=l6 d
   rw[e,gn a hb]at h;rw[fy,e];rcases(fy a p).1 h with h|⟨r,h⟩
   · exact Or.inr ⟨b,by rw[h]⟩
   · exact Or.inr ⟨r++47::b,by rw[h];simp⟩
 · exact absurd (m6 d) f
theorem Af {p r:List UInt8}: ∃a b,47∉b∧p++47::r=a++47::b∧aU a p=true∧aC (p++47::r)=a:=by
 obtain⟨a,b,hb,aE⟩:=l6 (l:=p++47::r) (by simp)
 refine⟨a,b,hb,aE,?_,by rw[aE];exact gn a hb⟩
 rw[fy];by_cases f:47∈r
 · obtain⟨y,A,d,z⟩:=l6 f
   have:aC (a++47::b)=aC ((p++47::y)++47::A):=by rw[←aE,z];simp
   rw[gn a hb,gn _ d]at this;exact Or.inr ⟨y,this⟩
 · have:aC (a++47::b)=aC (p++47::r):=by rw[←aE]
   rw[gn a hb,gn _ f]at this;exact Or.inl this
theorem jT {c:ay} (h:aQ c=0):1≤c.k∧c.k≤4:=by
 by_cases d:c.k<1∨4<c.k
 · rw[aQ,if_pos d]at h;cases h
 · omega
theorem iJ {c:ay} (h:aQ c=0):az c.p.data.toList=0:=by
 have f:=jT h;by_cases d:az c.p.data.toList=0
 · exact d
 · rw[aQ,if_neg (by omega),if_pos d]at h;exact h
theorem me {c:ay} (h:aQ c=0) (f:c.k=3):az c.q.data.toList=0:=by
 have z:=jT h;have y:=iJ h;by_cases d:az c.q.data.toList=0
 · exact d
 · rw[aQ,if_neg (by omega),if_neg (fun x=>x y),if_pos ⟨f,d⟩]at h;exact h
theorem kH {c:ay} (h:aQ c=0):(c.k=3∨c.q.data.toList=[])∧(c.k=2∨c.t.data.toList=[])∧c.t.size≤300∧ -1≤c.b∧c.b≤1000000:=by
 have G:=jT h;have A:=iJ h;have E:=fun z=>me h z
 rw[aQ,if_neg (by omega),if_neg (fun x=>x A),if_neg (fun x=>x.2 (E x.1))]at h;split at h
 · cases h
 · rename_i y
   split at h
   · cases h
   · rename_i F
     split at h
     · cases h
     · rename_i z
       refine⟨?_,?_,by omega,by omega,by omega⟩
       · by_cases d:c.k=3
         · exact Or.inl d
         · exact Or.inr (Classical.byContradiction fun f=>y (Or.inl ⟨d,f⟩))
       · by_cases d:c.k=2
         · exact Or.inl d
         · exact Or.inr (Classical.byContradiction fun f=>y (Or.inr ⟨d,f⟩))
theorem ob {L:List En} {c:ay} (h:bP L c=0):aP L (aC (Pp.goal c))=0:=by
 by_cases d:aP L (aC (Pp.goal c))=0
 · exact d
 · rw[bP,if_pos d]at h;exact h
theorem qf {L:List En} {c:ay} (h:bP L c=0) (E:1≤c.k∧c.k≤4):
    (c.k=1∧L.find? (aO c.p.data.toList)=none)∨(c.k=2∧ ∀x,L.find? (aO c.p.data.toList)=some x→x.folder=false)∨
    (c.k=3∧(∃x,L.find? (aO c.p.data.toList)=some x)∧aU c.q.data.toList c.p.data.toList=false∧L.find? (aO c.q.data.toList)=none)∨
    (c.k=4∧ ∃x,L.find? (aO c.p.data.toList)=some x):=by
 have z:=ob h;rw[bP,if_neg (fun x=>x z)]at h;have f:c.k=1∨c.k=2∨c.k=3∨c.k=4:=by omega
 cases d:L.find? (aO c.p.data.toList)with
 |none=>
  rw[d]at h;rcases f with e|e|e|e
  · exact Or.inl ⟨e,rfl⟩
  · exact Or.inr (Or.inl ⟨e,fun x d=>by cases d⟩)
  · simp[e]at h
  · simp[e]at h
 |some x=>
  rw[d]at h;rcases f with e|e|e|e
  · simp[e]at h
  · refine Or.inr (Or.inl ⟨e,fun y A=>?_⟩)
    cases A
    cases hb:x.folder with
    |false=>rfl
    |true=>simp[e,hb]at h
  · refine Or.inr (Or.inr (Or.inl ⟨e,⟨x,rfl⟩,?_,?_⟩))
    · cases hb:aU c.q.data.toList c.p.data.toList with
      |false=>rfl
      |true=>simp[e,hb]at h
    · cases hb:L.find? (aO c.q.data.toList)with
      |none=>rfl
      |some y=>simp only[e,hb]at h;simp at h;split at h<;>cases h
  · exact Or.inr (Or.inr (Or.inr ⟨e,x,rfl⟩))
theorem oc {x y:En} {L:List En}:y∈cL x L↔y∈L∧y.path.data.toList≠x.path.data.toList:=by
 rw[cL,List.mem_filter];simp[aO]
theorem Ag {L:List En} (H:Pp.Good L) {c:ay} {n:Int} (I:aQ c=0) (M:bP L c=0) (U:bi n=0) (X:c.k=1∨c.k=2) (Y: ¬60<(cL (Pp.newE c n) L).length+1):Pp.Good (cg (Pp.newE c n) (cL (Pp.newE c n) L)):=by
 have E:(cg (Pp.newE c n) (cL (Pp.newE c n) L)).Pairwise (fun x y=>Pp.lt x y=true):=n7 _ (List.Pairwise.filter _ H.rise) fun y F=>(oc.1 F).2
 have f: ∀y,y∈cg (Pp.newE c n) (cL (Pp.newE c n) L)↔y=Pp.newE c n∨y∈cL (Pp.newE c n) L:=fun y=>by rw[(kE _ _).mem_iff,List.mem_cons]
 have A:=kH I;refine⟨?_,fun y F=>?_,E,fun y F=>?_⟩
 · rw[(kE _ _).length_eq,List.length_cons];omega
 · rcases(f y).1 F with rfl|F
   · have P:az (Pp.newE c n).path.data.toList=0:=iJ I
     have Q:(Pp.newE c n).text.size=c.t.size:=rfl;rw[bM,if_pos P,if_neg,if_neg]
     · exact U
     · rw[Q];have:=A.2.2.1;omega
     · rintro ⟨S,hb⟩
       have T:c.k=1:=by simpa[Pp.newE]using S
       rcases A.2.1 with h|h
       · omega
       · exact hb h
   · exact H.ents y (oc.1 F).1
 · by_cases K:aC y.path.data.toList=[]
   · rw[K];exact pZ _
   have hF:aP L (aC y.path.data.toList)=0:=by
    rcases(f y).1 F with rfl|F
    · have:=ob M
      rw[Pp.goal,if_neg (by omega)]at this;exact this
    · exact H.pars y (oc.1 F).1
   obtain⟨z,N,J,G,V⟩:=l8 hF K
   refine ng E (x:=z) ((f z).2 (Or.inr (oc.2 ⟨N,fun e=>?_⟩))) J G
   have O:z.path.data.toList=c.p.data.toList:=e;have d:=tO H.rise N;rw[O]at d;rcases qf M (jT I)with h|h|h|h
   · rw[h.2]at d;cases d
   · have:=h.2 z d;rw[G]at this;cases this
   · omega
   · omega
theorem mf {L:List En} {c:ay} {y:En}:y∈cW L c↔y∈L∧aU y.path.data.toList c.p.data.toList=false:=by
 rw[cW,List.mem_filter];simp[be]
theorem jU {L:List En} {c:ay} {y:En}:y∈dw L c↔y∈L∧aU y.path.data.toList c.p.data.toList=true:=by
 rw[dw,List.mem_filter];simp[be]
theorem ui {L:List En} (G:Pp.Good L) {c:ay} {y:En} (H:y∈cW L c) (F:aC y.path.data.toList≠[]): ∃z∈cW L c,z.path.data.toList=aC y.path.data.toList∧z.folder=true:=by
 obtain⟨A,d⟩:=mf.1 H
 obtain⟨z,I,f,E,_⟩:=l8 (G.pars y A) F
 refine⟨z,mf.2 ⟨I,?_⟩,f,E⟩
 cases hb:aU z.path.data.toList c.p.data.toList with
 |false=>rfl
 |true=>rw[f]at hb;rw[uh hb F]at d;cases d
theorem Ah {L:List En} (f:Pp.Good L) (c:ay):Pp.Good (cW L c):=by
 have d:(cW L c).Pairwise (fun x y=>Pp.lt x y=true):=List.Pairwise.filter _ f.rise;refine⟨Nat.le_trans (List.length_filter_le _ _) f.len,fun y A=>f.ents y (mf.1 A).1,d,fun y A=>?_⟩
 by_cases G:aC y.path.data.toList=[]
 · rw[G];exact pZ _
 · obtain⟨z,H,F,E⟩:=ui f A G
   exact ng d H F E
theorem od (c:ay) (n:Int) (e:En):(bx c n e).path.data.toList=cn c e:=rfl
theorem Ai {L:List En} (f:Pp.Good L) {q:List UInt8} (A:q≠[]) (z:L.find? (aO q)=none) {e:En} (y:e∈L):aU e.path.data.toList q=false:=by
 cases hb:aU e.path.data.toList q with
 |false=>rfl
 |true=>
  obtain⟨x,E,d⟩:=zT f.pars A y hb
  have:=List.find?_eq_none.1 z x E
  simp[aO,d]at this
theorem qg {L:List En} (y:Pp.Good L) {c:ay} (n:Int) (F:c.q.data.toList≠[]) (E:L.find? (aO c.q.data.toList)=none):(cW L c++fB L c n).Pairwise gJ:=by
 have z:L.Pairwise gJ:=y.rise.imp fun h=>lZ h
 rw[List.pairwise_append];refine⟨List.Pairwise.filter _ z,?_,fun a A b hb e=>?_⟩
 · rw[fB,List.pairwise_map]
   have d:(dw L c).Pairwise gJ:=List.Pairwise.filter _ z;refine(List.Pairwise.and_mem.1 d).imp fun {a b} h e=>?_
   exact h.2.2 (zW (jU.1 h.1).2 (jU.1 h.2.1).2 e)
 · obtain⟨x,G,rfl⟩:=List.mem_map.1 hb
   have d:=zV (t:=c.q.data.toList) (jU.1 G).2;have f:=Ai y F E (mf.1 A).1;rw[e,od]at f;rw[cn,d]at f;cases f
theorem Aj {L:List En} (A:Pp.Good L) {c:ay} (d:aQ c=0) (z:c.k=3) {e:En} (G:e∈dw L c):az (cn c e)=if Pp.big (cn c e)=true then 2 else 0:=by
 obtain⟨f,y⟩:=jU.1 G
 refine tL ?_ y
 have E:=gv (A.ents e f);have hb:=iJ d;have F:=me d z;simp[cd,E,hb,F]
theorem Ak {L:List En} (H:Pp.Good L) {c:ay} {n:Int} (U:aQ c=0) (hp:bP L c=0) (hv:bi n=0) (V:c.k=3) (hb:(dw L c).any (fun e=>Pp.big (cn c e))=false):Pp.Good (fC (fB L c n) (cW L c)):=by
 obtain⟨_,⟨x0,I7⟩,S,I5⟩:c.k=3∧(∃x,L.find? (aO c.p.data.toList)=some x)∧aU c.q.data.toList c.p.data.toList=false∧L.find? (aO c.q.data.toList)=none:=by
  rcases qf hp (jT U)with h|h|h|h
  · omega
  · omega
  · exact h
  · omega
 have I0:=n9 (me U V);have d:(fC (fB L c n) (cW L c)).Pairwise (fun x y=>Pp.lt x y=true):=n8 _ (List.Pairwise.filter _ H.rise) (qg H n I0 I5)
 have f: ∀y,y∈fC (fB L c n) (cW L c)↔y∈cW L c∨ ∃e∈dw L c,bx c n e=y:=fun y=>by
  rw[(lY _ _).mem_iff,List.mem_append,fB,List.mem_map]
 refine⟨?_,fun y J=>?_,d,fun y J=>?_⟩
 · rw[(lY _ _).length_eq,List.length_append,fB,List.length_map]
   have h1:(cW L c).length+(dw L c).length=L.length:=by
    rw[cW,dw];have:=(List.filter_append_perm (fun e=> !be c.p.data.toList e) L).length_eq
    rw[List.length_append]at this;have e1:(List.filter (fun x=> !(fun e=> !be c.p.data.toList e) x) L)=List.filter (be c.p.data.toList) L:=by congr 1;funext x;simp
    rw[e1]at this;exact this
   have:=H.len
   omega
 · rcases(f y).1 J with J|⟨e,O,rfl⟩
   · exact H.ents y (mf.1 J).1
   · have I:=H.ents e (jU.1 O).1
     have h1:az (bx c n e).path.data.toList=0:=by
      rw[od,Aj H U V O,if_neg];have:=List.any_eq_false.1 hb e O
      exact this
     have h2:=gv I;rw[bM,if_pos h2]at I;rw[bM,if_pos h1];have h5:(bx c n e).folder=e.folder:=rfl;have h6:(bx c n e).text=e.text:=rfl;rw[h5,h6];split at I
     · cases I
     · rename_i ha
       rw[if_neg ha];split at I
       · cases I
       · rename_i Y
         rw[if_neg Y];by_cases Q:e.path.data.toList=c.p.data.toList
         · have:(bx c n e).ver=n:=by simp[bx,Q]
           rw[this];exact hv
         · have:(bx c n e).ver=e.ver:=by simp[bx,Q]
           rw[this];exact I
 · by_cases K:aC y.path.data.toList=[]
   · rw[K];exact pZ _
   rcases(f y).1 J with J|⟨e,O,rfl⟩
   · obtain⟨z,T,A,F⟩:=ui H J K
     exact ng d ((f z).2 (Or.inl T)) A F
   · rw[od]at K⊢
     obtain⟨pF,gm⟩:=jU.1 O
     rcases(fy _ _).1 gm with aL|⟨r,aL⟩
     · have Z:cn c e=c.q.data.toList:=by rw[cn,bW,aL];simp
       rw[Z]at K⊢;have E:=ob hp;rw[Pp.goal,if_pos V]at E;obtain⟨z,T,A,F,_⟩:=l8 E K
       refine ng d ((f z).2 (Or.inl (mf.2 ⟨T,?_⟩))) A F
       cases N:aU z.path.data.toList c.p.data.toList with
       |false=>rfl
       |true=>rw[A]at N;rw[uh N K]at S;cases S
     · obtain⟨a,b,M,aE,G,P⟩:=Af (p:=c.p.data.toList) (r:=r)
       have X:a≠[]:=by
        intro ea;rw[ea]at G;rcases(fy _ _).1 G with h|⟨s,h⟩
        · exact n9 (iJ U) h.symm
        · have h:=congrArg List.length h
          simp at h
       have E:=H.pars e pF;rw[aL,P]at E;obtain⟨z,T,A,F,_⟩:=l8 E X
       have I6:z∈dw L c:=jU.2 ⟨T,by rw[A];exact G⟩;refine ng d (x:=bx c n z) ((f _).2 (Or.inr ⟨z,I6,rfl⟩)) ?_ F
       rw[od,cn,A,cn,aL,aE];obtain⟨s,hs⟩:=pU G
       have:bW (a++47::b) c.p.data.toList c.q.data.toList=bW a c.p.data.toList c.q.data.toList++47::b:=by
        rw[bW,bW,hs];simp
       rw[this,gn _ M]
theorem qh {L:List En} (y:Pp.Good L) {c:ay} {n:Int} (h:bX L c n=0):Pp.Good (cQ L c n):=by
 have F:bi n=0:=by
  by_cases d:bi n=0
  · exact d
  · rw[bX,if_pos d]at h;exact h
 rw[bX,if_neg (fun x=>x F)]at h
 have z:aQ c=0:=by
  by_cases d:aQ c=0
  · exact d
  · rw[if_pos d]at h;exact h
 rw[if_neg (fun x=>x z)]at h
 have E:bP L c=0:=by
  by_cases d:bP L c=0
  · exact d
  · rw[if_pos d]at h;exact h
 rw[if_neg (fun x=>x E)]at h;split at h
 · cases h
 · rw[gx]at h
   rw[cQ];by_cases A:c.k=1∨c.k=2
   · rw[if_pos A]at h⊢
     refine Ag y z E F A fun G=>?_
     rw[if_pos G]at h;cases h
   · rw[if_neg A]at h⊢
     by_cases f:c.k=3
     · rw[if_pos f]at h⊢
       refine Ak y z E F f ?_
       cases hb:(dw L c).any (fun e=>Pp.big (cn c e))with
       |false=>rfl
       |true=>rw[if_pos hb]at h;cases h
     · rw[if_neg f]
       exact Ah y c
theorem oe (x y:En):ltOf Pp.cfE x y=Pp.lt x y:=by rw[iF];rfl
theorem Al:Sort.SWO (ltOf Pp.cfE) where
 irrefl x:=by rw[oe];exact fA x
 trans x y z h1 h2:=by rw[oe]at*;exact hU x y z h1 h2
 ntrans x y z h1 h2:=by rw[oe]at*;exact zO x y z h1 h2
end Go.Proofs.YtcmlnelpcjfocaaGreatDoor
namespace Go.Proofs.YtcmlnelpcjfocaaGreatDoor
def kI (e:Int) (L:List En):List En:=if e=0 then L else[]
theorem nh {e:Int} (h:e=0) (L:List En):kI e L=L:=if_pos h
theorem ni {e:Int} (h: ¬e=0) (L:List En):kI e L=[]:=if_neg h
end Go.Proofs.YtcmlnelpcjfocaaGreatDoor
namespace Go.Proofs.YtcmlnelpcjfocaaGreatDoor
open Go.RowKit
structure Rq where
 kind:Int
 who:ByteArray
 fo:ByteArray
 name:ByteArray
 key:ByteArray
 text:ByteArray
 num:Int
 off:Int
 base:Int
 ch:List ay
def jV (w:World) (v:Value) (q:Rq):Prop:= ∃va,v= .agg #[.int .i64 q.kind,.string q.who,.string q.fo,.string q.name,.string q.key,.string q.text,.int .i64 q.num,.int .i64 q.off,.int .i64 q.base,va]∧cj w va q.ch
theorem jV.below {w w':World} {v:Value} {q:Rq} (h:jV w v q) (f:Below w.heap.size w w'):jV w' v q:=by
 obtain⟨y,e,d⟩:=h
 exact⟨y,e,d.below f⟩
def qi:Rq:=⟨0,⟨#[]⟩,⟨#[]⟩,⟨#[]⟩,⟨#[]⟩,⟨#[]⟩,0,0,0,[]⟩
theorem uj (w:World):cj w (.slice none 0 0) []:=⟨none,0,rfl,Nat.le_refl _,Nat.zero_le _,fun i h=>absurd h (by simp)⟩
theorem Am (w:World):jV w (.agg #[.int .i64 0,.string ⟨#[]⟩,.string ⟨#[]⟩,.string ⟨#[]⟩,.string ⟨#[]⟩,.string ⟨#[]⟩,.int .i64 0,.int .i64 0,.int .i64 0,.slice none 0 0]) qi:=⟨_,rfl,uj _⟩
abbrev zq:List Value:=[.int .i64 0,.string ⟨#[]⟩,.string ⟨#[]⟩,.string ⟨#[]⟩,.string ⟨#[]⟩,.string ⟨#[]⟩,.int .i64 0,.int .i64 0,.int .i64 0,.slice none 0 0]
end Go.Proofs.YtcmlnelpcjfocaaGreatDoor
open Go.RowKit Go.Maps Go.Sort Go.Shelf
theorem Go.Proofs.Tryz.sortsK (m:Nat):AnyZ.SortsIn Tryz.prog Tryz.sortedK_ren Fence.wide m:=
 ⟨fun y off d ss W A f z=>callsIn_wide.2 (AnyM.slices_Sort_string Tryz.sortK y off d ss W A f z),
  fun p d W=>callsIn_wide.2 (AnyM.slices_Sort_string_none Tryz.sortK p d W)⟩
theorem Go.Proofs.Tryz.maps_KeysK (d:Option Nat) (W:World):CallsIn Fence.wide 5 Tryz.prog 197 #[.map d] W fun e w'=>e= .returned (.func (.func 227) #[] #[.pointer (some ⟨W.heap.size,0,none⟩)])∧w'=W.alloc (.cells #[.map d] 180):=
 AnyZ.keys_in Tryz.keysK Fence.wide 5 trivial rfl d W
set_option maxHeartbeats 1000000 in
theorem Go.Proofs.Tryz.slices_SortedK {H:Type} (b I:Nat) (z:DataW H) (R:Value→Option (DataW H×List MemPlace)) (w:World) (f:w.ownsMap Tryz.prog 9 R b I z) (E:Maps.size z≤maxLen) (d:Maps.size z*16≤140737488355328):
    CallsIn Fence.wide 5 Tryz.prog 196 #[.func (.func 227) #[] #[.pointer (some ⟨w.heap.size,0,none⟩)]] (w.alloc (.cells #[.map (some b)] 180)) fun e w'=> ∃(v:Value) (ss:List (List UInt8)),e= .returned v∧ss.Perm (strKeys z)∧
     w'.ownsRow (w.alloc (.cells #[.map (some b)] 180)).heap.size 9 1 v ss.length ((ss.mergeSort (fun x y=>decide (x≤y))).map encStr)∧(v= .slice none 0 0↔ss=[])∧Below (w.alloc (.cells #[.map (some b)] 180)).heap.size (w.alloc (.cells #[.map (some b)] 180)) w':=by
 have G:=f.lt
 have F:SeqGives Fence.wide 2 Tryz.prog 227 #[.pointer (some ⟨w.heap.size,0,none⟩)] encStr (fun ss=>ss.Perm (strKeys z)) (Maps.size z) (w.alloc (.cells #[.map (some b)] 180)):=
  AnyZ.keys_gives (ρ:=Tryz.keysK_ren) {Tryz.keysK with} Fence.wide _ trivial rfl (by omega) w.heap.size b I z _ (by simp) (by simp) (by
   obtain⟨K,A,hb,J,N,M⟩:=f
   exact⟨K,A,(Below.heap_alloc _ _ b G).trans hb,J,N,M⟩)
 exact AnyZ.sorted_in Tryz.sortedK Fence.wide 5 trivial trivial trivial trivial rfl (by omega) (Tryz.sortsK _) (enters_of Tryz.func226 (by kernel_rfl) rfl) 227 #[.pointer (some ⟨w.heap.size,0,none⟩)] trivial (enters_of Tryz.func227 (by kernel_rfl) rfl) _ _ E d _ F
set_option maxHeartbeats 1000000 in
theorem Go.Proofs.Tryz.paths_any {H:Type} (b G:Nat) (f:DataW H) (R:Value→Option (DataW H×List MemPlace)) (w:World) (E:w.ownsMap Tryz.prog 9 R b G f) (z:Maps.size f≤maxLen) (d:Maps.size f*16≤140737488355328):
    Calls Tryz.prog 152 #[.map (some b)] w fun e w'=> ∃(v:Value) (ss:List (List UInt8)),e= .returned v∧ss.Perm (strKeys f)∧
     w'.ownsRow w.heap.size 9 1 v ss.length ((ss.mergeSort (fun x y=>decide (x≤y))).map encStr)∧(v= .slice none 0 0↔ss=[])∧Below w.heap.size w w':=by
 refine(callsIn_wide (n:=6)).1 ?_
 have J:Fence.wide.fn 197:=trivial;have K:Fence.wide.fn 196:=trivial;refine callsIn_of_wp Tryz.func152 rfl trivial ?_ rfl
 simp only[Tryz.ntmps152,List.size_toArray,List.length_cons,List.length_nil,Nat.reduceAdd,Nat.reduceSub,Array.replicate_succ,Array.replicate_zero,List.push_toArray,List.append_toArray,List.nil_append,List.cons_append]
 gi_wp2_with (first
  |(gi_at_call 197;refine(Tryz.maps_KeysK _ _).mono ?_;rintro e w' ⟨rfl,rfl⟩)
  |(gi_at_call 196;refine(Tryz.slices_SortedK b G f R w E z d).mono ?_;rintro e w' ⟨v,ss,rfl,I,F,A,hb⟩))
 go_ret;exact⟨v,ss,rfl,I,ownsRow_base_a F (by simp),A,((Below.refl _ w).alloc (Nat.le_refl _) _).trans (hb.mono (by simp))⟩
