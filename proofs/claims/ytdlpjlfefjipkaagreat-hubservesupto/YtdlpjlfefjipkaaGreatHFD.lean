/- Changes that lie in memory. -/
import Derived.Maps.OwnSet
import Derived.StringKeys
import Derived.Test.YtdlpjlfefjipkaaGreatHFC
import Derived.Deep.RegionLaw
import Derived.Test.YtdlpjlfefjipkaaGreatRows
import Derived.Deep.Slices
import Derived.Carry
set_option linter.unusedSimpArgs false
set_option linter.unusedVariables false
namespace Go.Proofs.YtdlpjlfefjipkaaGreat
open Go.RowKit Go.ChangeShapes Go.WideShapes Go.ChangeAt Go.Proofs.Tryz
set_option maxHeartbeats 1000000
set_option maxRecDepth 100000
def gI (w:World) (b o:Nat) (c:aE):Prop:=w.cell? ⟨b,o,none⟩=some (.int .i64 c.k)∧w.cell? ⟨b,o+1,none⟩=some (.string c.p)∧w.cell? ⟨b,o+2,none⟩=some (.string c.q)∧w.cell? ⟨b,o+3,none⟩=some (.string c.t)∧w.cell? ⟨b,o+4,none⟩=some (.int .i64 c.b)
def cP (w:World) (v:Value) (cs:List aE):Prop:= ∃a cap,v= .slice a cs.length cap∧cs.length≤cap∧cs.length≤1000000000000000∧ ∀i (h:i<cs.length),∃b o,a=some ⟨b,o,none⟩∧b<w.heap.size∧gI w b (o+i*5) cs[i]
theorem gI.below {w w':World} {b o:Nat} {c:aE} (h:gI w b o c) (a:b<w.heap.size) (d:Below w.heap.size w w'):gI w' b o c:=
 ⟨(d.cell (p:=⟨b,o,none⟩) a).trans h.1,(d.cell (p:=⟨b,o+1,none⟩) a).trans h.2.1,(d.cell (p:=⟨b,o+2,none⟩) a).trans h.2.2.1,(d.cell (p:=⟨b,o+3,none⟩) a).trans h.2.2.2.1,(d.cell (p:=⟨b,o+4,none⟩) a).trans h.2.2.2.2⟩
theorem cP.below {w w':World} {v:Value} {cs:List aE} (h:cP w v cs) (f:Below w.heap.size w w'):cP w' v cs:=by
 obtain⟨a,c,A,g,j,s⟩:=h
 refine⟨a,c,A,g,j,fun i z=>?_⟩
 obtain⟨b,o,u,d,x⟩:=s i z
 exact⟨b,o,u,Nat.lt_of_lt_of_le d f.size,x.below d f⟩
def dV (B:Nat) (cs:List aE):Prop:= ∀c∈cs,c.p.size≤B∧c.q.size≤B∧c.t.size≤B
def dG (n:Int):List En→List aE→Nat×Int×List En
 |T,[]=>(0,0,T)
 |T,c::r=>if bW T c n=0 then((dG n (cN T c n) r).1+1,(dG n (cN T c n) r).2)else(0,bW T c n,[])
def Pp.Left (n:Int) (L:List En) (cs:List aE) (S:List En) (k:Nat):Prop:=dG n L cs=((dG n S (cs.drop k)).1+k,(dG n S (cs.drop k)).2)
theorem Pp.left_zero (n:Int) (L:List En) (cs:List aE):Pp.Left n L cs L 0:=rfl
theorem Pp.left_next {n:Int} {L:List En} {cs:List aE} {S:List En} {k:Nat} (h:Pp.Left n L cs S k) (c:k<cs.length) (a:bW S cs[k] n=0):Pp.Left n L cs (cN S cs[k] n) (k+1):=by
 rw[Pp.Left]at h⊢;rw[List.drop_eq_getElem_cons c,dG,if_pos a]at h;rw[h];simp only[Prod.mk.injEq,and_true];omega
theorem r7 {n:Int} {L:List En} {cs:List aE} {S:List En} {k:Nat} (h:Pp.Left n L cs S k) (c:k<cs.length) (a: ¬bW S cs[k] n=0):dG n L cs=(k,bW S cs[k] n,[]):=by
 rw[Pp.Left,List.drop_eq_getElem_cons c,dG,if_neg a]at h;rw[h];simp
theorem Pp.left_end {n:Int} {L:List En} {cs:List aE} {S:List En} (h:Pp.Left n L cs S cs.length):dG n L cs=(cs.length,0,S):=by
 rw[Pp.Left,List.drop_length,dG]at h;rw[h];simp
def bw (L:List En) (cs:List aE) (n:Int):Int:=if¬bg L=0 then bg L else if 20<cs.length then 2 else(dG n L cs).2.1
def ji (L:List En) (cs:List aE) (n:Int):Nat:=if¬bg L=0 then 0 else if 20<cs.length then 0 else(dG n L cs).1
def ct (L:List En) (cs:List aE) (n:Int):List En:=if¬bg L=0 then[]else if 20<cs.length then[]else(dG n L cs).2.2
theorem oR {L:List En} (h: ¬bg L=0) (cs:List aE) (n:Int):bw L cs n=bg L∧ji L cs n=0∧ct L cs n=[]:=⟨if_pos h,if_pos h,if_pos h⟩
theorem mW {L:List En} (h:bg L=0) {cs:List aE} (a:20<cs.length) (n:Int):bw L cs n=2∧ji L cs n=0∧ct L cs n=[]:=
 ⟨by rw[bw,if_neg (fun x=>x h),if_pos a],by rw[ji,if_neg (fun x=>x h),if_pos a],by rw[ct,if_neg (fun x=>x h),if_pos a]⟩
theorem oS {L:List En} (h:bg L=0) {cs:List aE} (a: ¬20<cs.length) {n:Int} {k:Nat} {e:Int} {R:List En} (c:dG n L cs=(k,e,R)):bw L cs n=e∧ji L cs n=k∧ct L cs n=R:=
 ⟨by rw[bw,if_neg (fun x=>x h),if_neg a,c],by rw[ji,if_neg (fun x=>x h),if_neg a,c],by rw[ct,if_neg (fun x=>x h),if_neg a,c]⟩
theorem xZ (n:Int) (L:List En):dG n L []=(0,0,L):=rfl
structure Co where
 nu:Int
 ke:ByteArray
 ch:List aE
structure Jo where
 base:List En
 first:Int
 cos:List Co
def fH (w:World) (b o:Nat) (c:Co):Prop:=w.cell? ⟨b,o,none⟩=some (.int .i64 c.nu)∧w.cell? ⟨b,o+1,none⟩=some (.string c.ke)∧ ∃u,w.cell? ⟨b,o+2,none⟩=some u∧cP w u c.ch
def b8 (w:World) (v:Value) (l:List Co):Prop:= ∃a cap,v= .slice a l.length cap∧l.length≤cap∧l.length≤1000000000000000∧ ∀i (h:i<l.length),∃b o,a=some ⟨b,o,none⟩∧b<w.heap.size∧fH w b (o+i*3) l[i]
def cV (w:World) (v:Value) (J:Jo):Prop:= ∃vb vc,v= .agg #[vb,.int .i64 J.first,vc]∧aF w vb J.base∧b8 w vc J.cos
theorem fH.below {w w':World} {b o:Nat} {c:Co} (h:fH w b o c) (d:b<w.heap.size) (a:Below w.heap.size w w'):fH w' b o c:=by
 obtain⟨f,g,u,i,j⟩:=h
 exact⟨(a.cell (p:=⟨b,o,none⟩) d).trans f,(a.cell (p:=⟨b,o+1,none⟩) d).trans g,u,(a.cell (p:=⟨b,o+2,none⟩) d).trans i,j.below a⟩
theorem b8.below {w w':World} {v:Value} {l:List Co} (h:b8 w v l) (f:Below w.heap.size w w'):b8 w' v l:=by
 obtain⟨a,c,A,g,j,s⟩:=h
 refine⟨a,c,A,g,j,fun i z=>?_⟩
 obtain⟨b,o,u,d,x⟩:=s i z
 exact⟨b,o,u,Nat.lt_of_lt_of_le d f.size,x.below d f⟩
theorem cV.below {w w':World} {v:Value} {J:Jo} (h:cV w v J) (a:Below w.heap.size w w'):cV w' v J:=by
 obtain⟨f,g,rfl,c,d⟩:=h
 exact⟨f,g,rfl,c.below a,d.below a⟩
theorem kX (w:World):b8 w (.slice none 0 0) []:=⟨none,0,rfl,ax,by decide,fun i h=>absurd h (by simp)⟩
def dm (B:Nat) (l:List Co):Prop:= ∀c∈l,c.ke.size≤B∧dV B c.ch
theorem dm.mono {B B':Nat} {l:List Co} (h:dm B l) (a:B≤B'):dm B' l:=fun c d=>⟨Nat.le_trans (h c d).1 a,fun x f=>⟨Nat.le_trans ((h c d).2 x f).1 a,Nat.le_trans ((h c d).2 x f).2.1 a,Nat.le_trans ((h c d).2 x f).2.2 a⟩⟩
def cz (c:Co) (n:Int):Int:=if¬c.nu=n then 4 else if 1000000<n then 3 else if¬cK c.ke.data.toList=true then 1 else if c.ch=[]then 1 else 0
def cA:Int→List En→List Co→Int×List En
 |_,T,[]=>(0,T)
 |n,T,c::r=>if¬cz c n=0 then(cz c n,[])else if¬bw T c.ch c.nu=0 then(bw T c.ch c.nu,[])else cA (n+1) (ct T c.ch c.nu) r
def dE (l:List Co):Prop:=l.Pairwise (fun x y=>x.ke.data.toList≠y.ke.data.toList)
instance (l:List Co):Decidable (dE l):=by unfold dE;infer_instance
def aT (J:Jo):Int:=if¬bg J.base=0 then bg J.base else if¬bm J.first=0 then 3 else if 30<J.cos.length then 2 else
 if¬(cA J.first J.base J.cos).1=0 then(cA J.first J.base J.cos).1 else if¬dE J.cos then 6 else 0
def Jn.tree (J:Jo):List En:=(cA J.first J.base J.cos).2
def Jn.last (J:Jo):Int:=J.first-1+J.cos.length
def fm (J:Jo) (S:List En) (k:Nat):Prop:=cA J.first J.base J.cos=cA (J.first+k) S (J.cos.drop k)
theorem Jn.left_zero (J:Jo):fm J J.base 0:=by rw[fm];simp
theorem oT {J:Jo} {S:List En} {k:Nat} (h:fm J S k) (a:k<J.cos.length):cA J.first J.base J.cos=if¬cz J.cos[k] (J.first+k)=0 then(cz J.cos[k] (J.first+k),[])else if¬bw S J.cos[k].ch J.cos[k].nu=0 then(bw S J.cos[k].ch J.cos[k].nu,[])else cA (J.first+(k+1:Nat)) (ct S J.cos[k].ch J.cos[k].nu) (J.cos.drop (k+1)):=by
 rw[fm,List.drop_eq_getElem_cons a,cA]at h;rw[h,show J.first+(k:Int)+1=J.first+((k+1:Nat):Int) by omega]
theorem r8 {J:Jo} {S:List En} {k:Nat} (h:fm J S k) (c:k<J.cos.length) (a: ¬cz J.cos[k] (J.first+k)=0):cA J.first J.base J.cos=(cz J.cos[k] (J.first+k),[]):=by
 rw[oT h c,if_pos a]
theorem r9 {J:Jo} {S:List En} {k:Nat} (h:fm J S k) (d:k<J.cos.length) (a:cz J.cos[k] (J.first+k)=0) (c: ¬bw S J.cos[k].ch J.cos[k].nu=0):cA J.first J.base J.cos=(bw S J.cos[k].ch J.cos[k].nu,[]):=by
 rw[oT h d,if_neg (fun x=>x a),if_pos c]
theorem Jn.left_next {J:Jo} {S:List En} {k:Nat} (h:fm J S k) (d:k<J.cos.length) (a:cz J.cos[k] (J.first+k)=0) (c:bw S J.cos[k].ch J.cos[k].nu=0):fm J (ct S J.cos[k].ch J.cos[k].nu) (k+1):=by
 rw[fm,oT h d,if_neg (fun x=>x a),if_neg (fun x=>x c)]
theorem Jn.left_end {J:Jo} {S:List En} (h:fm J S J.cos.length):cA J.first J.base J.cos=(0,S):=by
 rw[fm,List.drop_length,cA]at h;exact h
theorem jj {n:Int}:bm n=0↔1≤n∧n≤1000000:=by
 unfold bm;split
 · exact⟨(fun h=>by cases h),fun h=>by omega⟩
 · exact⟨fun _=>by omega,fun _=>rfl⟩
theorem oU {J:Jo} (h: ¬bg J.base=0):aT J=bg J.base:=by rw[aT,if_pos h]
theorem oV {J:Jo} (h:bg J.base=0) (a: ¬bm J.first=0):aT J=3:=by rw[aT,if_neg (fun x=>x h),if_pos a]
theorem oW {J:Jo} (h:bg J.base=0) (a:bm J.first=0) (c:30<J.cos.length):aT J=2:=by rw[aT,if_neg (fun x=>x h),if_neg (fun x=>x a),if_pos c]
theorem oX {J:Jo} (h:bg J.base=0) (a:bm J.first=0) (c: ¬30<J.cos.length) {e:Int} {T:List En} (f:cA J.first J.base J.cos=(e,T)) (d: ¬e=0):aT J=e:=by
 rw[aT,if_neg (fun x=>x h),if_neg (fun x=>x a),if_neg c,f,if_pos d]
theorem oY {J:Jo} (h:bg J.base=0) (a:bm J.first=0) (c: ¬30<J.cos.length) {T:List En} (f:cA J.first J.base J.cos=(0,T)) (d: ¬dE J.cos):aT J=6:=by
 rw[aT,if_neg (fun x=>x h),if_neg (fun x=>x a),if_neg c,f,if_neg (fun x=>x rfl),if_pos d]
theorem se {J:Jo} (h:bg J.base=0) (a:bm J.first=0) (c: ¬30<J.cos.length) {T:List En} (f:cA J.first J.base J.cos=(0,T)) (d:dE J.cos):aT J=0:=by
 rw[aT,if_neg (fun x=>x h),if_neg (fun x=>x a),if_neg c,f,if_neg (fun x=>x rfl),if_neg (fun x=>x d)]
theorem sh {J:Jo} {T:List En} (a:cA J.first J.base J.cos=(0,T)):Jn.tree J=T:=by rw[Jn.tree,a]
theorem fp {J:Jo} (h:aT J=0):bg J.base=0∧bm J.first=0∧ ¬30<J.cos.length∧cA J.first J.base J.cos=(0,Jn.tree J)∧dE J.cos:=by
 by_cases a:bg J.base=0
 · by_cases c:bm J.first=0
   · by_cases d:30<J.cos.length
     · rw[oW a c d]at h;cases h
     · rcases g:cA J.first J.base J.cos with⟨e,T⟩
       by_cases f:e=0
       · subst f
         by_cases i:dE J.cos
         · exact⟨a,c,d,by rw[sh g],i⟩
         · rw[oY a c d g i]at h;cases h
       · rw[oX a c d g f]at h;exact absurd h f
   · rw[oV a c]at h;cases h
 · rw[oU a]at h;exact absurd h a
theorem mX {T:List En} {cs:List aE} {n:Int} (h:bw T cs n=0):Pp.Good (ct T cs n):=by
 have a:bg T=0:=by
  by_cases a:bg T=0
  · exact a
  · rw[(oR a cs n).1]at h;exact absurd h a
 have f: ¬20<cs.length:=fun f=>by rw[(mW a f n).1]at h;cases h
 have g:=oS a f (n:=n) (k:=(dG n T cs).1) (e:=(dG n T cs).2.1) (R:=(dG n T cs).2.2) rfl;rw[g.1]at h;rw[g.2.2];have i:=(g9 T).1 a;clear g a f;induction cs generalizing T with
 |nil=>exact i
 |cons c r ih=>
  rw[dG]at h⊢;by_cases d:bW T c n=0
  · rw[if_pos d]at h⊢
    exact ih h (oP i d)
  · rw[if_neg d]at h
    exact absurd h d
theorem sj: ∀{n:Int} {T:List En} {l:List Co},Pp.Good T→(cA n T l).1=0→Pp.Good (cA n T l).2
 |n,T,[],hT,_=>hT
 |n,T,c::r,hT,h=>by
  rw[cA]at h⊢;by_cases d:cz c n=0
  · rw[if_neg (fun x=>x d)]at h⊢
    by_cases a:bw T c.ch c.nu=0
    · rw[if_neg (fun x=>x a)]at h⊢
      exact sj (mX a) h
    · rw[if_pos a]at h;exact absurd h a
  · rw[if_pos d]at h;exact absurd h d
theorem mY {J:Jo} (h:aT J=0):Pp.Good (Jn.tree J):=by
 obtain⟨c,_,_,a,_⟩:=fp h
 have:=sj (n:=J.first) (l:=J.cos) ((g9 _).1 c) (by rw[a])
 rwa [a]at this
def bO (J:Jo) (k:Nat):List En:=(J.cos.take k).foldl (fun T c=>ct T c.ch c.nu) J.base
theorem kf (J:Jo):bO J 0=J.base:=by simp[bO]
theorem mZ {J:Jo} {k:Nat} (a:k<J.cos.length):bO J (k+1)=ct (bO J k) J.cos[k].ch J.cos[k].nu:=by
 rw[bO,List.take_succ_eq_append_getElem a,List.foldl_append];rfl
theorem sk: ∀{n:Int} {T:List En} {l:List Co},(cA n T l).1=0→(cA n T l).2=l.foldl (fun T c=>ct T c.ch c.nu) T
 |n,T,[],_=>rfl
 |n,T,c::r,h=>by
  rw[cA]at h⊢;by_cases a:cz c n=0
  · rw[if_neg (fun x=>x a)]at h⊢
    by_cases d:bw T c.ch c.nu=0
    · rw[if_neg (fun x=>x d)]at h⊢
      exact sk h
    · rw[if_pos d]at h;exact absurd h d
  · rw[if_pos a]at h;exact absurd h a
theorem yd {J:Jo} (h:aT J=0):Jn.tree J=bO J J.cos.length:=by
 obtain⟨_,_,_,a,_⟩:=fp h
 rw[bO,List.take_length,Jn.tree,sk (by rw[a])]
def kh (l:List Co) (i k:Nat):Prop:= ∀x∈l.take k,∀y,l[i]?=some y→x.ke.data.toList≠y.ke.data.toList
theorem ye (l:List Co) (i:Nat):kh l i 0:=fun x a=>by simp at a
theorem yg {l:List Co} {i k:Nat} (h:kh l i k) (g:k<l.length) (f:i<l.length) (d:l[k].ke.data.toList≠l[i].ke.data.toList):kh l i (k+1):=by
 intro x c y a;rw[List.take_succ_eq_append_getElem g,List.mem_append,List.mem_singleton]at c;rcases c with c|rfl
 · exact h x c y a
 · rw[List.getElem?_eq_getElem f]at a
   injection a with a
   rw[←a];exact d
theorem yh {l:List Co} {i:Nat} (a:i<l.length) (h:dE (l.take i)) (d:kh l i i):dE (l.take (i+1)):=by
 rw[List.take_succ_eq_append_getElem a,dE,List.pairwise_append];refine⟨h,by simp,fun x f y c=>?_⟩
 rw[List.mem_singleton]at c;exact d x f y (by rw[c];exact List.getElem?_eq_getElem a)
theorem yi {l:List Co} {i k:Nat} (c:i<l.length) (d:k<i) (a:l[k].ke.data.toList=l[i].ke.data.toList): ¬dE l:=fun h=>(List.pairwise_iff_getElem.1 h k i (by omega) c d) a
def Jn.key (p:ByteArray):Lit:= .string p.data.toList
def Jn.num (n:Int):DataW Unit:= .lit (.int .i64 n)
def Jn.D (l:List Co):DataW Unit:=l.foldl (fun m c=>m.put (Jn.key c.ke) (Jn.num c.nu)) (.map [])
theorem kY (l:List Co) (c:Co):Jn.D (l++[c])=(Jn.D l).put (Jn.key c.ke) (Jn.num c.nu):=by simp[Jn.D]
theorem sn {l:List Co} {k:Nat} (a:k<l.length):Jn.D (l.take (k+1))=(Jn.D (l.take k)).put (Jn.key l[k].ke) (Jn.num l[k].nu):=by
 rw[List.take_succ_eq_append_getElem a,kY]
theorem m6 (p:ByteArray):WideAt.IsKeyLit (Jn.key p):=by simp[Jn.key,WideAt.IsKeyLit]
theorem oZ {p q:ByteArray} (h:Jn.key p=Jn.key q):p.data.toList=q.data.toList:=by simpa[Jn.key]using h
theorem lR (l:List Co):Maps.Tidy (Jn.D l):=by
 have: ∀(l:List Co) (m:DataW Unit),Maps.Tidy m→Maps.Tidy (l.foldl (fun m c=>m.put (Jn.key c.ke) (Jn.num c.nu)) m):=by
  intro l;induction l with
  |nil=>intro m h;exact h
  |cons c r ih=>intro m h;exact ih _ (h.put (m6 _) _)
 exact this l _ Maps.tidy_empty
def dy (l:List Co) (p:List UInt8):Bool:=l.any (fun c=>c.ke.data.toList==p)
theorem lS {c:Type} {P:List c→Prop} (d:P []) (f: ∀L e,P L→P (L++[e])) (L:List c):P L:=by
 have h: ∀R:List c,P R.reverse:=fun R=>by
  induction R with
  |nil=>exact d
  |cons a r ih=>rw[List.reverse_cons];exact f _ _ ih
 have g:=h L.reverse;rwa [List.reverse_reverse]at g
theorem kZ (l:List Co) (p:ByteArray):Maps.has (Jn.D l) (Jn.key p)=dy l p.data.toList:=by
 refine lS (P:=fun l=>Maps.has (Jn.D l) (Jn.key p)=dy l p.data.toList) rfl ?_ l
 intro l c ih;rw[kY,dy,List.any_append];by_cases a:Jn.key p=Jn.key c.ke
 · rw[a,Maps.has_put_same (lR l).isMap (m6 _)]
   simp[oZ a]
 · rw[Maps.has_put_other a,ih,dy]
   have d: ¬c.ke.data=p.data:=fun h=>a (by rw[Jn.key,Jn.key,h])
   simp[d]
theorem yj (l:List Co):Maps.size (Jn.D l)≤l.length∧(Maps.size (Jn.D l)=l.length↔dE l):=by
 refine lS (P:=fun l=>Maps.size (Jn.D l)≤l.length∧(Maps.size (Jn.D l)=l.length↔dE l)) ⟨ax,⟨fun _=>List.Pairwise.nil,fun _=>rfl⟩⟩ ?_ l
 intro l c ⟨s,f⟩;rw[kY,Maps.size_put (lR l),kZ,List.length_append,dE,List.pairwise_append];cases i:dy l c.ke.data.toList with
 |true=>
  rw[if_pos rfl];refine⟨by omega,⟨fun h=>?_,fun h=>?_⟩⟩
  · simp at h;omega
  · obtain⟨x,o,g⟩:=List.any_eq_true.1 i
    exact absurd (by simpa using g) (h.2.2 x o c (by simp))
 |false=>
  rw[if_neg (by simp)];refine⟨by simp;omega,⟨fun h=>?_,fun h=>?_⟩⟩
  · refine⟨f.1 (by simp at h;omega),by simp,fun a j b d=>?_⟩
    simp at d
    subst d;intro g;have:=List.any_eq_false.1 i a j
    simp[g]at this
  · have:=f.2 h.1
    simp;omega
def Jn.numOf (l:List Co) (p:List UInt8):Int:=match l.find? (fun c=>c.ke.data.toList==p)with
 |some c=>c.nu
 |none=>0
theorem yk {l:List Co} (h:dE l) (p:ByteArray) (z:Int):dy l p.data.toList=true→(Jn.D l).atKey (Jn.key p) (Jn.num z)=Jn.num (Jn.numOf l p.data.toList):=by
 revert h
 refine lS (P:=fun l=>dE l→dy l p.data.toList=true→(Jn.D l).atKey (Jn.key p) (Jn.num z)=Jn.num (Jn.numOf l p.data.toList)) (fun _ h=>by cases h) ?_ l
 intro l c ih ha hb;rw[dE,List.pairwise_append]at ha;rw[kY];by_cases d:Jn.key p=Jn.key c.ke
 · have i:=oZ d
   rw[d,Maps.atKey_put_same (lR l).isMap (m6 _)]
   have a:l.find? (fun c=>c.ke.data.toList==p.data.toList)=none:=by
    rw[List.find?_eq_none];intro x j g;exact ha.2.2 x j c (by simp) (by simp at g;rw[g,i])
   rw[Jn.numOf,List.find?_append,a];simp[i]
 · rw[Maps.atKey_put_other d]
   have f: ¬c.ke.data=p.data:=fun h=>d (by rw[Jn.key,Jn.key,h])
   rw[dy,List.any_append]at hb;simp[f]at hb
   rw[ih ha.1 (by rw[dy,List.any_eq_true];simpa using hb),Jn.numOf,Jn.numOf,List.find?_append];simp[f]
structure Pg where
 reset:Bool
 tree:List En
 cos:List Co
 cur:Int
 more:Bool
def d6 (w:World) (v:Value) (P:Pg):Prop:= ∃vt vc,v= .agg #[.bool P.reset,vt,vc,.int .i64 P.cur,.bool P.more]∧aF w vt P.tree∧b8 w vc P.cos
theorem d6.below {w w':World} {v:Value} {P:Pg} (h:d6 w v P) (a:Below w.heap.size w w'):d6 w' v P:=by
 obtain⟨i,g,c,d,f⟩:=h
 exact⟨i,g,c,d.below a,f.below a⟩
theorem eh {w:World} {v:Value} {l:List Co} (h:b8 w v l): ∃a c,v= .slice a l.length c:=by
 obtain⟨a,c,h,_⟩:=h
 exact⟨a,c,h⟩
structure Rq where
 kind:Int
 who:ByteArray
 fo:ByteArray
 name:ByteArray
 key:ByteArray
 text:ByteArray
 num:Int
 off:Int
 base:Int
 ch:List aE
def bH (w:World) (v:Value) (q:Rq):Prop:= ∃va,v= .agg #[.int .i64 q.kind,.string q.who,.string q.fo,.string q.name,.string q.key,.string q.text,.int .i64 q.num,.int .i64 q.off,.int .i64 q.base,va]∧cP w va q.ch
theorem bH.below {w w':World} {v:Value} {q:Rq} (h:bH w v q) (c:Below w.heap.size w w'):bH w' v q:=by
 obtain⟨d,e,a⟩:=h
 exact⟨d,e,a.below c⟩
theorem yl (w:World):cP w (.slice none 0 0) []:=⟨none,0,rfl,ax,Nat.zero_le _,fun i h=>absurd h (by simp)⟩
abbrev zq:List Value:=[.int .i64 0,.string ⟨#[]⟩,.string ⟨#[]⟩,.string ⟨#[]⟩,.string ⟨#[]⟩,.string ⟨#[]⟩,.int .i64 0,.int .i64 0,.int .i64 0,.slice none 0 0]
theorem so (L:List En) (v u:Value) (w:World) (K:aF w v L) (J:aF w u L):
    Calls prog 55 #[v,u] w fun e w'=>e= .returned (.bool true)∧Below w.heap.size w w':=by
 obtain⟨a,G,rfl,C,x,B⟩:=K
 have E:Hid (∀i (h:i<L.length),∃b o,a=some ⟨b,o,none⟩∧b<w.heap.size∧dJ w b (o+i*4) L[i]):=B;obtain⟨F,A,rfl,s,_,d⟩:=J
 have g:Hid (∀i (h:i<L.length),∃b o,F=some ⟨b,o,none⟩∧b<w.heap.size∧dJ w b (o+i*4) L[i]):=d;clear B d;go_enter func55,ntmps55
 go_wp2;go_loopw [5] (fun i wr=> ∃k:Nat,k≤L.length∧i= .int .i64 k∧Below w.heap.size w wr) (fun i _=>L.length-(intOf i).toNat)
 case atStart=>exact⟨0,Nat.zero_le _,rfl,aw⟩
 case round=>
  obtain⟨k,V,rfl,c⟩:=hrel
  by_cases f:k<L.length
  · obtain⟨b,o,rfl,H,I⟩:=E.out k f
    obtain⟨M,X,rfl,j,z⟩:=g.out k f
    obtain⟨N,O,P,Q⟩:=I.below H c
    obtain⟨R,S,T,U⟩:=z.below j c
    go_wp2_with fail;go_region
    go_wp2;go_roundw
    case rel=>exact⟨k+1,by omega,by simp,c.drew⟩
    case measure=>simp[intOf];omega
  · go_wp2
    go_ret;exact⟨rfl,c⟩
theorem sr (s t:ByteArray) (f:TypeId) (w:World) (c:s.size≤1000000000000000) (d:t.size≤1000000000000000):
    Calls prog 122 #[.slice (some ⟨w.heap.size,0,none⟩) 2 2] (w.alloc (.cells #[s,t] f)) fun e w'=>e= .returned (.int .i64 (bZ [s.data.toList,t.data.toList]))∧Below w.heap.size w w':=by
 refine(oK [s,t] w.heap.size 2 _ (by simp) (by simp) (fun i h=>?_) (fun i h=>?_)).mono ?_
 · match i,h with
   |0,_=>exact c
   |1,_=>exact d
 · match i,h with
   |0,_=>simp
   |1,_=>simp
 · rintro e w' ⟨rfl,a⟩
   exact⟨rfl, ak.trans (a.mono (by simp))⟩
theorem m8 (s t u:ByteArray) (g:TypeId) (w:World) (c:s.size≤1000000000000000) (d:t.size≤1000000000000000) (f:u.size≤1000000000000000):
    Calls prog 122 #[.slice (some ⟨w.heap.size,0,none⟩) 3 3] (w.alloc (.cells #[s,t,u] g)) fun e w'=>e= .returned (.int .i64 (bZ [s.data.toList,t.data.toList,u.data.toList]))∧Below w.heap.size w w':=by
 refine(oK [s,t,u] w.heap.size 3 _ (by simp) (by simp) (fun i h=>?_) (fun i h=>?_)).mono ?_
 · match i,h with
   |0,_=>exact c
   |1,_=>exact d
   |2,_=>exact f
 · match i,h with
   |0,_=>simp
   |1,_=>simp
   |2,_=>simp
 · rintro e w' ⟨rfl,a⟩
   exact⟨rfl, ak.trans (a.mono (by simp))⟩
theorem m9 (s t:ByteArray) (w:World) (f:s.size≤1000000000000000) (g:t.size≤1000000000000000):
    Calls prog 223 #[s,t] w fun e w'=>e= .returned (.bool (a8 s.data.toList t.data.toList))∧w'=w:=by
 have a:=xr s.data.toList t.data.toList;cases d:(s.toList==t.toList)with
 |true=>
  have c:=hid (show true=a8 s.data.toList t.data.toList from by rw[←a,←Lib.toList_data,←Lib.toList_data,d];rfl);clear a;go_enter func223,ntmps223
  go_wp2;go_ret;exact⟨br c.out,rfl⟩
 |false=>
  have c:=hid (show Lib.hasPrefix s.data.toList (t++⟨#[47]⟩).data.toList=a8 s.data.toList t.data.toList from by
   rw[←a,Joins.data_append];rw[Lib.toList_data,Lib.toList_data]at d;rw[d];simp)
  clear a;go_enter func223,ntmps223
  go_wp2_with fail;refine(Tryz.strings_HasPrefix _ _ _).mono ?_
  rintro e i ⟨rfl,rfl⟩;rw[c.out];go_wp2;go_ret;exact⟨rfl,rfl⟩
theorem o3 (s t:ByteArray) (w:World) (c:s.size≤1000000000000000) (d:t.size≤1000000000000000):
    Calls prog 213 #[s,t] w fun e w'=>e= .returned (.tuple #[.bool (bZ [s.data.toList,t.data.toList]==0 && a8 s.data.toList t.data.toList),bZ [s.data.toList,t.data.toList]])∧Below w.heap.size w w':=by
 cases g:(bZ [s.data.toList,t.data.toList]==0)with
 |true=>
  have f:=hid (show bZ [s.data.toList,t.data.toList]=0 from by simpa using g);clear g;go_enter func213,ntmps213
  go_wp2_with fail;refine(sr s t _ _ c d).mono ?_
  rintro e i ⟨rfl,a⟩;rw[f.out];go_wp2_with fail;refine(m9 s t _ c d).mono ?_
  rintro e j ⟨rfl,rfl⟩;go_wp2;go_ret2;exact⟨by rw[f.out];rfl,a⟩
 |false=>
  go_enter func213,ntmps213
  go_wp2_with fail;refine(sr s t _ _ c d).mono ?_
  rintro e i ⟨rfl,a⟩;go_wp2;go_ret2;exact⟨rfl,a⟩
theorem ym (p f t:ByteArray) (h:a8 p.data.toList f.data.toList=true):f.size≤p.size∧t++p.extract f.size p.size=⟨(bV p.data.toList f.data.toList t.data.toList).toArray⟩:=by
 have a:f.data.toList.length≤p.data.toList.length:=by
  rcases(eK _ _).1 h with e|⟨r,e⟩
  · rw[e];exact ax
  · rw[e];simp
 refine⟨by rw[Lib.size_eq,Lib.size_eq];exact a,gE ?_⟩
 rw[Joins.data_append,Lib.extract_data,bV,Lib.size_eq f,Lib.size_eq p,List.take_of_length_le (by rw[List.length_drop];exact ax)]
theorem st (p f t:List UInt8):(bV p f t).length≤t.length+p.length:=by simp[bV]
theorem yn {p f t:List UInt8} (h: ¬bZ [p,f,t]=0):gX p f t=bZ [p,f,t]:=by rw[gX,if_neg h]
theorem yo {p f t:List UInt8} (h:bZ [p,f,t]=0) (a:a8 p f=false):gX p f t=5:=by rw[gX,if_pos h,if_neg (by rw[a];decide)]
theorem sv {p f t:List UInt8} (h:bZ [p,f,t]=0) (a:a8 p f=true):gX p f t=aD (bV p f t):=by rw[gX,if_pos h,if_pos a]
theorem o4 (p f t:ByteArray) (w:World) (H:p.size≤200000000000000) (G:f.size≤200000000000000) (I:t.size≤200000000000000):
    Calls prog 216 #[p,f,t] w fun e w'=>e= .returned (.tuple #[.string ⟨(kQ (gX p.data.toList f.data.toList t.data.toList) (bV p.data.toList f.data.toList t.data.toList)).toArray⟩,gX p.data.toList f.data.toList t.data.toList])∧Below w.heap.size w w':=by
 have u:=st p.data.toList f.data.toList t.data.toList;rw[←Lib.size_eq,←Lib.size_eq]at u;by_cases c:bZ [p.data.toList,f.data.toList,t.data.toList]=0
 · have s:Hid (bZ [p.data.toList,f.data.toList,t.data.toList]=0):=c
   cases i:a8 p.data.toList f.data.toList with
   |false=>
    have v:Hid (a8 p.data.toList f.data.toList=false):=i;have j:Hid (gX p.data.toList f.data.toList t.data.toList=5):=yo c i;clear c i;go_enter func216,ntmps216
    go_wp2_with fail;refine(m8 p f t _ _ (by omega) (by omega) (by omega)).mono ?_
    rintro e z ⟨rfl,a⟩;rw[s.out];go_wp2_with fail;refine(m9 p f _ (by omega) (by omega)).mono ?_
    rintro e B ⟨rfl,rfl⟩;rw[v.out];go_wp2;go_ret2;exact⟨by rw[j.out,lH (by decide)];rfl,a⟩
   |true=>
    have v:Hid (a8 p.data.toList f.data.toList=true):=i;have j:Hid (gX p.data.toList f.data.toList t.data.toList=aD (bV p.data.toList f.data.toList t.data.toList)):=sv c i;obtain⟨C,hcut⟩:=ym p f t i
    have d:Hid (t++p.extract f.size p.size=⟨(bV p.data.toList f.data.toList t.data.toList).toArray⟩):=hcut;clear c i hcut;have A:(f.size:Int)≤p.size:=by omega
    by_cases x:aD (bV p.data.toList f.data.toList t.data.toList)=0
    · have o:Hid (aD (bV p.data.toList f.data.toList t.data.toList)=0):=x
      clear x;go_enter func216,ntmps216
      go_wp2_with fail;refine(m8 p f t _ _ (by omega) (by omega) (by omega)).mono ?_
      rintro e z ⟨rfl,a⟩;rw[s.out];go_wp2_with fail;refine(m9 p f _ (by omega) (by omega)).mono ?_
      rintro e B ⟨rfl,rfl⟩;rw[v.out];go_wp2_with fail;rw[d.out];refine(rR ⟨(bV p.data.toList f.data.toList t.data.toList).toArray⟩ _ (by rw[i7];omega) o.out).mono ?_
      rintro e F ⟨rfl,g⟩;go_wp2;go_ret2;exact⟨by rw[j.out,o.out,fF rfl];rfl,aG a g⟩
    · have o:Hid (¬aD (bV p.data.toList f.data.toList t.data.toList)=0):=x
      clear x;go_enter func216,ntmps216
      go_wp2_with fail;refine(m8 p f t _ _ (by omega) (by omega) (by omega)).mono ?_
      rintro e z ⟨rfl,a⟩;rw[s.out];go_wp2_with fail;refine(m9 p f _ (by omega) (by omega)).mono ?_
      rintro e B ⟨rfl,rfl⟩;rw[v.out];go_wp2_with fail;rw[d.out];refine(xO ⟨(bV p.data.toList f.data.toList t.data.toList).toArray⟩ _ (by rw[i7];omega) o.out).mono ?_
      rintro e F ⟨rfl,g⟩;go_wp2;go_ret2;exact⟨by rw[j.out,lH o.out];rfl,aG a g⟩
 · have j:Hid (gX p.data.toList f.data.toList t.data.toList=bZ [p.data.toList,f.data.toList,t.data.toList]):=yn c
   have s:Hid (¬bZ [p.data.toList,f.data.toList,t.data.toList]=0):=c;have E:(bZ [p.data.toList,f.data.toList,t.data.toList]==0)=false:=by simpa using c
   clear c;go_enter func216,ntmps216
   go_wp2_with fail;refine(m8 p f t _ _ (by omega) (by omega) (by omega)).mono ?_
   rintro e z ⟨rfl,a⟩;go_wp2;go_ret2;exact⟨by rw[j.out,lH s.out];rfl,a⟩
theorem yp (e:En) (g:Nat) (d:Array Value) (i:En→Bool) (b:Nat) (w:World) (v:b<w.heap.size) (x:w.cell? ⟨b,0,none⟩=some (.func (.func g) #[] d)) (f:dh w g d i) (A:e.path.size≤1000000000000000):
    Calls prog 217 #[.agg #[e.path,e.folder,e.text,e.ver],.pointer (some ⟨b,0,none⟩)] w fun r w'=>r= .returned (.bool (!i e))∧Below w.heap.size w w':=by
 have z: ∀o,(w.alloc o).cell? ⟨b,0,none⟩=some (.func (.func g) #[] d):=fun o=>(((Below.refl w.heap.size w).alloc ax o).cell (p:=⟨b,0,none⟩) v).trans x
 have s:Hid (dh w g d i):=f;have u:=f.1;clear f;go_enter func217,ntmps217
 go_wp2_with fail;refine(s.out.2 _ ak e A).mono ?_
 rintro r G ⟨rfl,a⟩;obtain⟨B,C,E,F,c,j⟩:=dK a
 clear a u;go_wp2;go_ret;exact⟨rfl,c⟩
theorem o5 (g:Nat) (a:Array Value) (c:En→Bool) (w:World) (f:dh w g a c):
    Calls prog 203 #[.func (.func g) #[] a] w fun e w'=>e= .returned (.func (.func 217) #[] #[.pointer (some ⟨w.heap.size,0,none⟩)])∧dh w' 217 #[.pointer (some ⟨w.heap.size,0,none⟩)] (fun e=> !c e)∧Below w.heap.size w w':=by
 have i:Hid (dh w g a c):=f;clear f;go_enter func203,ntmps203
 go_wp2;go_ret;refine⟨rfl,⟨enters_of func217 (by kernel_rfl) rfl,fun W d e j=>?_⟩,ak⟩
 exact yp e g a c w.heap.size W (Nat.lt_of_lt_of_le (by simp) d.size) ((d.cell (p:=⟨w.heap.size,0,none⟩) (by simp)).trans (by simp)) (i.out.below ( ak.trans (d.mono (by simp)))) j
def d7 (q:List UInt8) (e:En):Bool:=bZ [e.path.data.toList,q]==0 && a8 e.path.data.toList q
theorem yq (e:En) (q:ByteArray) (b:Nat) (w:World) (g:b<w.heap.size) (i:w.cell? ⟨b,0,none⟩=some (.string q)) (u:e.path.size≤1000000000000000) (s:q.size≤1000000000000000):
    Calls prog 214 #[.agg #[e.path,e.folder,e.text,e.ver],.pointer (some ⟨b,0,none⟩)] w fun r w'=>r= .returned (.bool (d7 q.data.toList e))∧Below w.heap.size w w':=by
 have j: ∀o,(w.alloc o).cell? ⟨b,0,none⟩=some (.string q):=fun o=>(((Below.refl w.heap.size w).alloc ax o).cell (p:=⟨b,0,none⟩) g).trans i
 have f:Hid ((bZ [e.path.data.toList,q.data.toList]==0 && a8 e.path.data.toList q.data.toList)=d7 q.data.toList e):=rfl;go_enter func214,ntmps214
 go_wp2_with fail;refine(o3 e.path q _ u s).mono ?_
 rintro r B ⟨rfl,a⟩;rw[f.out];obtain⟨v,x,z,A,c,d⟩:=dK a
 clear a;go_wp2;go_ret;exact⟨rfl,c⟩
theorem lT (q:ByteArray) (w:World) (d:q.size≤1000000000000000):
    Calls prog 199 #[q] w fun e w'=>e= .returned (.func (.func 214) #[] #[.pointer (some ⟨w.heap.size,0,none⟩)])∧dh w' 214 #[.pointer (some ⟨w.heap.size,0,none⟩)] (d7 q.data.toList)∧Below w.heap.size w w':=by
 go_enter func199,ntmps199
 go_wp2;go_ret;refine⟨rfl,⟨enters_of func214 (by kernel_rfl) rfl,fun W a e c=>?_⟩,ak⟩
 exact yq e q w.heap.size W (Nat.lt_of_lt_of_le (by simp) a.size) ((a.cell (p:=⟨w.heap.size,0,none⟩) (by simp)).trans (by simp)) c d
theorem lU (L:List En) (v:Value) (g:Nat) (U:Array Value) (x:En→Bool) (w:World) (hv:aF w v L) (X:dh w g U x) (hn:L.length≤1000000000) (hs:dk L):
    Calls prog 169 #[v,.func (.func g) #[] U] w fun e w'=> ∃u,e= .returned u∧w'.ownsRow w.heap.size 145 4 u (L.filter x).length (cq (L.filter x))∧u≠ .slice none 0 0∧Below w.heap.size w w':=by
 obtain⟨i0,J,P,Q,R⟩:=info_parts Tryz.infoE
 obtain⟨a,E1,rfl,E0,V,hL⟩:=hv
 have HL:Hid (∀i (h:i<L.length),∃b o,a=some ⟨b,o,none⟩∧b<w.heap.size∧dJ w b (o+i*4) L[i]):=hL;have HG:Hid (dh w g U x):=X;have HS:Hid (dk L):=hs;have eg:=X.1;clear hL X hs;go_enter func169,ntmps169
 go_wp2_with (at_make;refine wpList_make_own _ rfl _ _ 33 rfl w.heap.size 145 i0 (.agg #[.string ⟨#[]⟩,false,.string ⟨#[]⟩,ah]) 4 underlying33 J P Q .i64 .i64 (L.length:Int) L.length rfl rfl rfl ?m2 ?m3 ?m4 ?_)
 case m2=>rw[R];omega
 case m3=>unfold maxLen;omega
 case m4=>exact ax
 intro w0 N B;have I:Below w.heap.size w w0:= aw.grown B ax (fun k hk=>by cases hk);clear B;go_wp2;go_loopw [5,13] (fun u i wr=> ∃k:Nat,k≤L.length∧i= .int .i64 k∧wr.ownsRow w.heap.size 145 4 u ((L.take k).filter x).length (cq ((L.take k).filter x))∧u≠ .slice none 0 0∧Below w.heap.size w wr) (fun _ i _=>L.length-(intOf i).toNat)
 case atStart=>exact⟨0,Nat.zero_le _,rfl,N,by simp,I⟩
 case round=>
  obtain⟨k,hk,rfl,s,G,c⟩:=hrel
  clear N I
  have Y:((L.take k).filter x).length≤k:=by
   have h1:=List.length_filter_le x (L.take k);have h2:=List.length_take_le k L;omega
  by_cases A:k<L.length
  · obtain⟨b,o,rfl,hb,he⟩:=HL.out k A
    obtain⟨c0,c1,c2,c3⟩:=he.below hb c
    have O:=HS.out L[k] (List.getElem_mem A);cases S:x L[k]with
    |true=>
     have T:Hid ((L.take (k+1)).filter x=(L.take k).filter x++[L[k]]):=xW A S;go_wp2_with fail;refine(HG.out.2 _ (c.alloc c.size _) L[k] O.1).mono ?_
     rintro e Z ⟨rfl,z⟩;obtain⟨d0,d1,d2,d3,f,K⟩:=dK z
     have d:=aG c f;have j:=gh s f;rw[S];clear z c0 c1 c2 c3 eg s c f;go_wp2_with (at_builtin;refine wpList_append_own _ rfl _ _ 33 rfl w.heap.size 145 i0 (.agg #[.string ⟨#[]⟩,false,.string ⟨#[]⟩,ah]) 4 48 underlying33 J P Q R rfl (by decide) _ _ _ rfl (j.alloc _) ⟨Z.heap.size,0,none⟩ 1 1 (Pp.cells L[k]) rfl rfl ?c1 ?c2 ?c3 ?c4 ?c5 ?_)
     case c1=>exact gi Z L[k] _
     case c2=>exact gH _
     case c3=>unfold maxLen;omega
     case c4=>omega
     case c5=>have:=d.size;simp;omega
     intro v2 w2 H C E;have F:Below w.heap.size w w2:=(d.alloc d.size _).grown C (by have:=d.size;simp;omega) (fun q hq=>(j.lt q hq).1);rw[gG]at H;have HO:Hid (w2.ownsRow w.heap.size 145 4 v2 (((L.take k).filter x).length+1) (cq ((L.take k).filter x++[L[k]]))):=H;have M:v2≠ .slice none 0 0:=by simpa using E
     clear H C E j d d0 d1 d2 d3 G;go_wp2;go_roundw
     case rel=>exact⟨k+1,by omega,by simp,by rw[T.out,List.length_append];exact HO.out,M,F⟩
     case measure=>simp[intOf];omega
    |false=>
     have T:Hid ((L.take (k+1)).filter x=(L.take k).filter x):=xX A S;go_wp2_with fail;refine(HG.out.2 _ (c.alloc c.size _) L[k] O.1).mono ?_
     rintro e Z ⟨rfl,z⟩;obtain⟨d0,d1,d2,d3,f,K⟩:=dK z
     have d:=aG c f;have j:=gh s f;rw[S];clear z c0 c1 c2 c3 eg s c f;go_wp2;go_roundw
     case rel=>exact⟨k+1,by omega,by simp,by rw[T.out];exact j,G,d⟩
     case measure=>simp[intOf];omega
  · go_wp2
    go_ret;exact⟨_,rfl,by have e:L.take k=L:=List.take_of_length_le (by omega);rw[e]at s;exact s,G,c⟩
def bi (B:Nat) (w:World) (v:Value):Prop:= ∀g,v.ownBlock=some g→B≤g∧ ∃cur T,w.heap[g]?=some (.cells cur T (0,0))
theorem fq (B:Nat) (w:World):bi B w (.slice none 0 0):=fun g h=>by simp[Value.ownBlock]at h
theorem bi.lt {B:Nat} {w:World} {v:Value} (h:bi B w v): ∀g,v.ownBlock=some g→g<w.heap.size:=fun g a=>by
 obtain⟨_,cur,T,c⟩:=h g a
 exact fG c
theorem bi.below {B:Nat} {w w':World} {v:Value} (h:bi B w v) (f:Below w.heap.size w w'):bi B w' v:=fun g d=>by
 obtain⟨c,cur,T,a⟩:=h g d
 exact⟨c,cur,T,(f.block g (fG a)).trans a⟩
theorem bi.mono {B B':Nat} {w:World} {v:Value} (h:bi B w v) (c:B'≤B):bi B' w v:=fun g a=>⟨Nat.le_trans c (h g a).1,(h g a).2⟩
theorem jk {w:World} {base:Nat} {e:TypeId} {size:Nat} {v:Value} {n:Nat} {j:List Value} (h:w.ownsRow base e size v n j):bi base w v:=by
 obtain⟨_,d⟩:=h
 rcases d with⟨rfl,_⟩|⟨g,c,cur,rfl,f,i,_⟩
 · exact fq _ _
 · intro o a
   simp only[Value.ownBlock,Option.some.injEq]at a;subst a;exact⟨f,cur,e,i⟩
def gJ (B:Nat) (w:World) (v:Value) (L:List En):Prop:=aF w v L∧bi B w v
theorem gJ.mono {A B:Nat} {w:World} {v:Value} {L:List En} (h:gJ B w v L) (a:A≤B):gJ A w v L:=⟨h.1,h.2.mono a⟩
theorem ki (B:Nat) (w:World):gJ B w (.slice none 0 0) []:=⟨⟨none,0,rfl,ax,by simp,fun i a=>absurd a (by simp)⟩,fq _ _⟩
theorem yr {w:World} {base:Nat} {T:TypeId} {v:Value} {L:List En} (h:w.ownsRow base T 4 v L.length (cq L)) (a:L.length≤1000000000000000):gJ base w v L:=⟨xY h a,jk h⟩
theorem gK {P:Program} {F:Array Oper} {o:Oper} {a:Act} {w:World} {K:Act→World→Prop} {Q:Exit→Act→World→Prop} {E:Prop}
    (S:o.guard=none) (s x:Operand) (t:TypeId) (I:o.op=Op.call {callee:=Callee.builtin Builtin.append,args:= #[s,x],argTypes:= #[t,t]})
    (base:Nat) (e:TypeId) (i:TypeInfo) (z:Value) (size bytes:Nat) (X:P.underlying t=some (.slice e)) (T:P.info? e=some i) (hz:i.zero=some z)
    (B:i.size=size) (H:i.bytes=bytes) (M:z.cells.size=size) (J:0<size)
    (v:Value) (n:Nat) (O:List Value) (V:a.eval s=v) (C:w.ownsRow base e size v n O)
    (ad:Addr) (m c:Nat) (d:List Value) (Z:a.eval x= .slice (some ad) m c) (U:d.length=m*size) (A: ∀j u,d[j]?=some u→w.cell? (ad.add j)=some u) (R: ∀u∈d,u.oneCell'=true)
    (G:n+m≤maxLen) (f:(n+m)*bytes≤140737488355328) (g:base≤w.heap.size)
    (h: ∀N w',w'.ownsRow base e size N (n+m) (O++d)→w.grownBy w' v.ownBlock→(N= .slice none 0 0↔v= .slice none 0 0∧m=0)→K (a.put o.dst N) w'):
    if Region.wanted o (yielded F a.tmps)=true then Oper.wp P o a w K Q else E:=by
 have Y:Region.wanted o (yielded F a.tmps)=true:=by simp[Region.wanted,S]
 rw[if_pos Y];exact wp_append_own w s x t I base e i z size bytes X T hz B H M J v n O V C ad m c d Z U A R G f g h
theorem Bk.mem {H:Type} {d:DataW H}: ∀{l:List (DataW H)},d∈l→Rows.uptoBulk d≤Rows.uptoBulkAll l
 |[],h=>by cases h
 |x::r,h=>by
  rw[Rows.uptoBulkAll];rcases List.mem_cons.1 h with rfl|h
  · omega
  · have:=Bk.mem h;omega
theorem Bk.len {H:Type}: ∀{l:List (DataW H)},(∀d∈l,1≤Rows.uptoBulk d)→l.length≤Rows.uptoBulkAll l
 |[],_=>Nat.zero_le _
 |x::r,h=>by
  rw[Rows.uptoBulkAll,List.length_cons];have c:=h x (by simp);have f:=Bk.len (l:=r) fun d a=>h d (by simp[a])
  omega
theorem Tryz.cellsE:prog.cellsOf 145=4:=by kernel_rfl
theorem Tryz.cells9:prog.cellsOf 9=1:=by kernel_rfl
theorem Tryz.cells4:prog.cellsOf 4=1:=by kernel_rfl
theorem Tryz.cells3:prog.cellsOf 3=1:=by kernel_rfl
def nd {H:Type} (e:En):DataW H:= .agg [.lit (.string e.path.data.toList),.lit (.bool e.folder),.lit (.string e.text.data.toList),.lit (.int .i64 e.ver)]
theorem o6 {H:Type} (e:En):Rows.uptoBulk (nd (H:=H) e)=e.path.size+e.text.size+5:=by
 rw[nd,Rows.uptoBulk,Rows.uptoBulkAll,Rows.uptoBulkAll,Rows.uptoBulkAll,Rows.uptoBulkAll,Rows.uptoBulkAll,Rows.uptoBulk,Rows.uptoBulk,Rows.uptoBulk,Rows.uptoBulk,Lib.size_eq,Lib.size_eq]
 · omega
 · intro b h;cases h
 · intro b h;cases h
theorem sw {f:Type} {l:List f} (h:l.length=4): ∃a b c d,l=[a,b,c,d]:=by
 rcases l with _|⟨a,_|⟨b,_|⟨c,_|⟨d,_|⟨e,r⟩⟩⟩⟩⟩
 all_goals first|exact⟨a,b,c,d,rfl⟩|(simp at h)
theorem nf {W:World} {a:Addr} {v:Value} (k:W.cell? a=some v):a.spot=none:=by
 unfold World.cell? at k;cases c:a.spot with
 |none=>rfl
 |some z=>rw[c]at k;simp at k;split at k<;>cases k
theorem ys {H:Type} {enc:TypeId×Value→H} {W:World} {n i:Nat} {a:Addr} {x:DataW H} {pl:List MemPlace} {f:List Value} (ha:a.spot=none)
    (I:W.cells? 0 (a.add (i*prog.cellsOf 145)) (prog.cellsOf 145)=some f) (h2:DataW.trod enc prog W 0 (fun _=>true) true n 145 f=some (x,pl)):
    ∃e:En,x=nd e∧a.spot=none∧dJ W a.block (a.off+i*4) e:=by
 rw[Tryz.cellsE]at I;obtain⟨_,g,o⟩:=World.cells?_some I
 obtain⟨y0,y1,y2,y3,s,j,_,t0,t1,t2,t3⟩:=Go.Joins.trod_struct4 underlying145 h2
 obtain⟨C,E,F,G,rfl⟩:=sw g
 have v:DataW.trod enc prog W 0 (fun _=>true) true s 9 [C]=some y0:=by simpa[Tryz.cells9]using t0
 have z:DataW.trod enc prog W 0 (fun _=>true) true s 4 [E]=some y1:=by simpa[Tryz.cells4]using t1
 have A:DataW.trod enc prog W 0 (fun _=>true) true s 9 [F]=some y2:=by simpa[Tryz.cells9]using t2
 have B:DataW.trod enc prog W 0 (fun _=>true) true s 3 [G]=some y3:=by simpa[Tryz.cells3]using t3
 obtain⟨O,S,V,_⟩:=DataW.trod_string underlying9 v
 obtain⟨P,T,X⟩:=DataW.trod_bool underlying4 z
 obtain⟨Q,e2,Y,_⟩:=DataW.trod_string underlying9 A
 obtain⟨R,U,Z,_⟩:=DataW.trod_int underlying3 B
 obtain rfl:C= .string O:=by simpa using S
 obtain rfl:E= .bool P:=by simpa using T
 obtain rfl:F= .string Q:=by simpa using e2
 obtain rfl:G= .int .i64 R:=by simpa using U
 subst V;subst X;subst Y;subst Z;simp only[Prod.mk.injEq]at j;have J:=o 0 (by omega);have K:=o 1 (by omega);have M:=o 2 (by omega);have N:=o 3 (by omega);obtain⟨ab,ao,u⟩:=a
 obtain rfl:u=none:=ha;refine⟨⟨O,P,Q,R⟩,j.1,rfl,?_,?_,?_,?_⟩
 · by_cases c:i=0
   · subst c;simpa[Addr.add]using J
   · have d:i*4≠0:=by omega
     simpa[Addr.add,d]using J
 · by_cases c:i=0
   · subst c;simpa[Addr.add]using K
   · have d:i*4≠0:=by omega
     simpa[Addr.add,d,Nat.add_assoc]using K
 · by_cases c:i=0
   · subst c;simpa[Addr.add]using M
   · have d:i*4≠0:=by omega
     simpa[Addr.add,d,Nat.add_assoc]using M
 · by_cases c:i=0
   · subst c;simpa[Addr.add]using N
   · have d:i*4≠0:=by omega
     simpa[Addr.add,d,Nat.add_assoc]using N
theorem yt {B:Nat} (hB:B≤1000000000) {H:Type} {enc:TypeId×Value→H} {W:World} {v:Value} {d:DataW H} {p:List MemPlace} {fuel:Nat} (R:DataW.trod enc prog W 0 (fun _=>true) true fuel 33 [v]=some (d,p)) (S:Rows.uptoBulk d≤B):
    ∃L:List En,aF W v L∧L.length≤B∧ ∀e∈L,e.path.size≤B∧e.text.size≤B:=by
 haveI:Inhabited En:=⟨⟨⟨#[]⟩,false,⟨#[]⟩,0⟩⟩
 rcases Go.Deep.open_slice underlying33 R with⟨g,M⟩|⟨a,len,j,m,n,D,V,g,hb,T,hm,z,M,u⟩
 · obtain rfl:v= .slice none 0 0:=by simpa using g
   exact⟨[],⟨none,0,rfl,ax,by simp,fun i c=>absurd c (by simp)⟩,by simp,fun e F=>by cases F⟩
 obtain rfl:v= .slice (some a) len j:=by simpa using g
 have J:m=j:=z.trans (if_pos rfl);clear z;have s:=(Prod.mk.inj M).1;clear M;subst J
 have K:0<len→a.spot=none:=fun h=>by
  obtain⟨A,f,_⟩:=u 0 (by omega)
  rw[Tryz.cellsE]at f;obtain⟨_,x,Q⟩:=World.cells?_some f
  obtain⟨O,X,Y,Z,rfl⟩:=sw x
  have U:=Q 0 (by omega);exact nf (v:=O) (by simpa[Addr.add]using U)
 have o: ∀i,i<len→ ∃e:En,D i=nd e∧a.spot=none∧dJ W a.block (a.off+i*4) e:=fun i c=>by
  obtain⟨A,f,C⟩:=u i (by omega)
  exact ys (K (by omega)) f C
 obtain⟨E,hE⟩:=Go.Deep.choose_lt o
 have P:Rows.uptoBulkAll ((List.range len).map D)≤B:=by
  rw[s,Rows.uptoBulk]at S;omega
 refine⟨(List.range len).map E,⟨some a,_,by simp;rfl,by simpa using T,?_,fun i c=>?_⟩,?_,fun e F=>?_⟩
 · have:=Bk.len (l:=(List.range len).map D) (fun d s=>by
    obtain⟨i,c,rfl⟩:=List.mem_map.1 s
    rw[(hE i (List.mem_range.1 c)).1,o6];omega)
   simp at this⊢
   omega
 · have G:i<len:=by simpa using c
   obtain⟨f,C,N⟩:=hE i G
   have I:a.block<W.heap.size:=by
    have k:=N.1;rcases Nat.lt_or_ge a.block W.heap.size with h|h
    · exact h
    · unfold World.cell? at k;rw[Array.getElem?_eq_none h]at k;cases k
   refine⟨a.block,a.off,?_,I,by simpa using N⟩
   rw[←C]
 · have:=Bk.len (l:=(List.range len).map D) (fun d s=>by
    obtain⟨i,c,rfl⟩:=List.mem_map.1 s
    rw[(hE i (List.mem_range.1 c)).1,o6];omega)
   simp at this⊢
   omega
 · obtain⟨i,c,rfl⟩:=List.mem_map.1 F
   have f:=Bk.mem (List.mem_map.2 ⟨i,c,rfl⟩:D i∈(List.range len).map D);rw[(hE i (List.mem_range.1 c)).1,o6]at f;omega
end Go.Proofs.YtdlpjlfefjipkaaGreat
