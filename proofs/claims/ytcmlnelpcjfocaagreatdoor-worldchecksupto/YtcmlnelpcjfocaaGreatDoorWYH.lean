/- Journals as plain mathematics: commits, what Check answers, the tree that comes, what Commit, Read and Follow answer. -/
import Derived.StringKeys
import Derived.Test.YtcmlnelpcjfocaaGreatDoorWYF
import Derived.Deep.RegionHeld3
import Derived.Deep.RegionLaw
import Derived.Laws.OwnMore
import Derived.Deep.AppendLies
import Derived.Sort.Walk0
import Derived.Test.YtcmlnelpcjfocaaGreatDoorRows
import Derived.Deep.Slices
import Derived.Carry
set_option linter.unusedSimpArgs false
set_option linter.unusedVariables false
namespace Go.Proofs.YtcmlnelpcjfocaaGreatDoor
open Go.RowKit Go.Maps Go.WideMaps Go.Proofs Go.ChangeShapes Go.WideShapes Go.ChangeAt Go.Proofs.Tryz
set_option maxHeartbeats 2000000
set_option maxRecDepth 100000
structure Co where
 nu:Int
 ke:ByteArray
 ch:List ay
structure Jo where
 base:List En
 first:Int
 cos:List Co
def iQ (w:World) (b o:Nat) (c:Co):Prop:=w.cell? ⟨b,o,none⟩=some (.int .i64 c.nu)∧w.cell? ⟨b,o+1,none⟩=some (.string c.ke)∧ ∃u,w.cell? ⟨b,o+2,none⟩=some u∧cj w u c.ch
def eG (w:World) (v:Value) (l:List Co):Prop:= ∃a cap,v= .slice a l.length cap∧l.length≤cap∧l.length≤1000000000000000∧ ∀i (h:i<l.length),∃b o,a=some ⟨b,o,none⟩∧b<w.heap.size∧iQ w b (o+i*3) l[i]
def iR (w:World) (v:Value) (J:Jo):Prop:= ∃vb vc,v= .agg #[vb,.int .i64 J.first,vc]∧an w vb J.base∧eG w vc J.cos
theorem iQ.below {w w':World} {b o:Nat} {c:Co} (h:iQ w b o c) (hb:b<w.heap.size) (d:Below w.heap.size w w'):iQ w' b o c:=by
 obtain⟨f,y,u,z,A⟩:=h
 exact⟨(d.cell (p:=⟨b,o,none⟩) hb).trans f,(d.cell (p:=⟨b,o+1,none⟩) hb).trans y,u,(d.cell (p:=⟨b,o+2,none⟩) hb).trans z,A.below d⟩
theorem eG.below {w w':World} {v:Value} {l:List Co} (h:eG w v l) (f:Below w.heap.size w w'):eG w' v l:=by
 obtain⟨a,d,H,y,z,A⟩:=h
 refine⟨a,d,H,y,z,fun i G=>?_⟩
 obtain⟨b,o,E,hb,F⟩:=A i G
 exact⟨b,o,E,Nat.lt_of_lt_of_le hb f.size,F.below hb f⟩
theorem iR.below {w w':World} {v:Value} {J:Jo} (h:iR w v J) (d:Below w.heap.size w w'):iR w' v J:=by
 obtain⟨z,A,rfl,f,y⟩:=h
 exact⟨z,A,rfl,f.below d,y.below d⟩
theorem A8 (w:World):eG w (.slice none 0 0) []:=⟨none,0,rfl,Nat.le_refl _,by decide,fun i h=>absurd h (by simp)⟩
def eO (B:Nat) (l:List Co):Prop:= ∀c∈l,c.ke.size≤B∧lo B c.ch
theorem eO.mono {B B':Nat} {l:List Co} (h:eO B l) (hb:B≤B'):eO B' l:=fun c d=>⟨Nat.le_trans (h c d).1 hb,fun x f=>⟨Nat.le_trans ((h c d).2 x f).1 hb,Nat.le_trans ((h c d).2 x f).2.1 hb,Nat.le_trans ((h c d).2 x f).2.2 hb⟩⟩
def cT (c:Co) (n:Int):Int:=if¬c.nu=n then 4 else if 1000000<n then 3 else if¬cZ c.ke.data.toList=true then 1 else if c.ch=[]then 1 else 0
def cU:Int→List En→List Co→Int×List En
 |_,T,[]=>(0,T)
 |n,T,c::r=>if¬cT c n=0 then(cT c n,[])else if¬cF T c.ch c.nu=0 then(cF T c.ch c.nu,[])else cU (n+1) (dQ T c.ch c.nu) r
def Jn.Apart (l:List Co):Prop:=l.Pairwise (fun x y=>x.ke.data.toList≠y.ke.data.toList)
instance (l:List Co):Decidable (Jn.Apart l):=by unfold Jn.Apart;infer_instance
def bq (J:Jo):Int:=if¬aH J.base=0 then aH J.base else if¬bi J.first=0 then 3 else if 30<J.cos.length then 2 else
 if¬(cU J.first J.base J.cos).1=0 then(cU J.first J.base J.cos).1 else if¬Jn.Apart J.cos then 6 else 0
def Jn.tree (J:Jo):List En:=(cU J.first J.base J.cos).2
def Jn.last (J:Jo):Int:=J.first-1+J.cos.length
def gA (J:Jo) (S:List En) (k:Nat):Prop:=cU J.first J.base J.cos=cU (J.first+k) S (J.cos.drop k)
theorem Jn.left_zero (J:Jo):gA J J.base 0:=by rw[gA];simp
theorem qE {J:Jo} {S:List En} {k:Nat} (h:gA J S k) (d:k<J.cos.length):cU J.first J.base J.cos=if¬cT J.cos[k] (J.first+k)=0 then(cT J.cos[k] (J.first+k),[])else if¬cF S J.cos[k].ch J.cos[k].nu=0 then(cF S J.cos[k].ch J.cos[k].nu,[])else cU (J.first+(k+1:Nat)) (dQ S J.cos[k].ch J.cos[k].nu) (J.cos.drop (k+1)):=by
 rw[gA,List.drop_eq_getElem_cons d,cU]at h;rw[h,show J.first+(k:Int)+1=J.first+((k+1:Nat):Int) by omega]
theorem uQ {J:Jo} {S:List En} {k:Nat} (h:gA J S k) (f:k<J.cos.length) (d: ¬cT J.cos[k] (J.first+k)=0):cU J.first J.base J.cos=(cT J.cos[k] (J.first+k),[]):=by
 rw[qE h f,if_pos d]
theorem uR {J:Jo} {S:List En} {k:Nat} (h:gA J S k) (y:k<J.cos.length) (d:cT J.cos[k] (J.first+k)=0) (f: ¬cF S J.cos[k].ch J.cos[k].nu=0):cU J.first J.base J.cos=(cF S J.cos[k].ch J.cos[k].nu,[]):=by
 rw[qE h y,if_neg (fun x=>x d),if_pos f]
theorem Jn.left_next {J:Jo} {S:List En} {k:Nat} (h:gA J S k) (y:k<J.cos.length) (d:cT J.cos[k] (J.first+k)=0) (f:cF S J.cos[k].ch J.cos[k].nu=0):gA J (dQ S J.cos[k].ch J.cos[k].nu) (k+1):=by
 rw[gA,qE h y,if_neg (fun x=>x d),if_neg (fun x=>x f)]
theorem Jn.left_end {J:Jo} {S:List En} (h:gA J S J.cos.length):cU J.first J.base J.cos=(0,S):=by
 rw[gA,List.drop_length,cU]at h;exact h
theorem qF {n:Int}:bi n=0↔1≤n∧n≤1000000:=by
 unfold bi;split
 · exact⟨(fun h=>by cases h),fun h=>by omega⟩
 · exact⟨fun _=>by omega,fun _=>rfl⟩
theorem qG {J:Jo} (h: ¬aH J.base=0):bq J=aH J.base:=by rw[bq,if_pos h]
theorem qH {J:Jo} (h:aH J.base=0) (d: ¬bi J.first=0):bq J=3:=by rw[bq,if_neg (fun x=>x h),if_pos d]
theorem qI {J:Jo} (h:aH J.base=0) (d:bi J.first=0) (f:30<J.cos.length):bq J=2:=by rw[bq,if_neg (fun x=>x h),if_neg (fun x=>x d),if_pos f]
theorem qJ {J:Jo} (h:aH J.base=0) (d:bi J.first=0) (f: ¬30<J.cos.length) {e:Int} {T:List En} (z:cU J.first J.base J.cos=(e,T)) (y: ¬e=0):bq J=e:=by
 rw[bq,if_neg (fun x=>x h),if_neg (fun x=>x d),if_neg f,z,if_pos y]
theorem qK {J:Jo} (h:aH J.base=0) (d:bi J.first=0) (f: ¬30<J.cos.length) {T:List En} (z:cU J.first J.base J.cos=(0,T)) (y: ¬Jn.Apart J.cos):bq J=6:=by
 rw[bq,if_neg (fun x=>x h),if_neg (fun x=>x d),if_neg f,z,if_neg (fun x=>x rfl),if_pos y]
theorem uS {J:Jo} (h:aH J.base=0) (d:bi J.first=0) (f: ¬30<J.cos.length) {T:List En} (z:cU J.first J.base J.cos=(0,T)) (y:Jn.Apart J.cos):bq J=0:=by
 rw[bq,if_neg (fun x=>x h),if_neg (fun x=>x d),if_neg f,z,if_neg (fun x=>x rfl),if_neg (fun x=>x y)]
theorem uT {J:Jo} {T:List En} (d:cU J.first J.base J.cos=(0,T)):Jn.tree J=T:=by rw[Jn.tree,d]
theorem ov {J:Jo} (h:bq J=0):aH J.base=0∧bi J.first=0∧ ¬30<J.cos.length∧cU J.first J.base J.cos=(0,Jn.tree J)∧Jn.Apart J.cos:=by
 by_cases d:aH J.base=0
 · by_cases f:bi J.first=0
   · by_cases y:30<J.cos.length
     · rw[qI d f y]at h;cases h
     · rcases A:cU J.first J.base J.cos with⟨e,T⟩
       by_cases z:e=0
       · subst z
         by_cases E:Jn.Apart J.cos
         · exact⟨d,f,y,by rw[uT A],E⟩
         · rw[qK d f y A E]at h;cases h
       · rw[qJ d f y A z]at h;exact absurd h z
   · rw[qH d f]at h;cases h
 · rw[qG d]at h;exact absurd h d
theorem qL {T:List En} {cs:List ay} {n:Int} (h:cF T cs n=0):Pp.Good (dQ T cs n):=by
 have d:aH T=0:=by
  by_cases d:aH T=0
  · exact d
  · rw[(pX d cs n).1]at h;exact absurd h d
 have y: ¬20<cs.length:=fun y=>by rw[(oa d y n).1]at h;cases h
 have z:=pY d y (n:=n) (k:=(dG n T cs).1) (e:=(dG n T cs).2.1) (R:=(dG n T cs).2.2) rfl;rw[z.1]at h;rw[z.2.2];have A:=(fP T).1 d;clear z d y;induction cs generalizing T with
 |nil=>exact A
 |cons c r ih=>
  rw[dG]at h⊢;by_cases f:bX T c n=0
  · rw[if_pos f]at h⊢
    exact ih h (qh A f)
  · rw[if_neg f]at h
    exact absurd h f
theorem uU: ∀{n:Int} {T:List En} {l:List Co},Pp.Good T→(cU n T l).1=0→Pp.Good (cU n T l).2
 |n,T,[],hT,_=>hT
 |n,T,c::r,hT,h=>by
  rw[cU]at h⊢;by_cases f:cT c n=0
  · rw[if_neg (fun x=>x f)]at h⊢
    by_cases d:cF T c.ch c.nu=0
    · rw[if_neg (fun x=>x d)]at h⊢
      exact uU (qL d) h
    · rw[if_pos d]at h;exact absurd h d
  · rw[if_pos f]at h;exact absurd h f
theorem qM {J:Jo} (h:bq J=0):Pp.Good (Jn.tree J):=by
 obtain⟨f,_,_,d,_⟩:=ov h
 have:=uU (n:=J.first) (l:=J.cos) ((fP _).1 f) (by rw[d])
 rwa [d]at this
def bQ (J:Jo) (k:Nat):List En:=(J.cos.take k).foldl (fun T c=>dQ T c.ch c.nu) J.base
theorem ly (J:Jo):bQ J 0=J.base:=by simp[bQ]
theorem ow {J:Jo} {k:Nat} (d:k<J.cos.length):bQ J (k+1)=dQ (bQ J k) J.cos[k].ch J.cos[k].nu:=by
 rw[bQ,List.take_succ_eq_append_getElem d,List.foldl_append];rfl
theorem uV: ∀{n:Int} {T:List En} {l:List Co},(cU n T l).1=0→(cU n T l).2=l.foldl (fun T c=>dQ T c.ch c.nu) T
 |n,T,[],_=>rfl
 |n,T,c::r,h=>by
  rw[cU]at h⊢;by_cases d:cT c n=0
  · rw[if_neg (fun x=>x d)]at h⊢
    by_cases f:cF T c.ch c.nu=0
    · rw[if_neg (fun x=>x f)]at h⊢
      exact uV h
    · rw[if_pos f]at h;exact absurd h f
  · rw[if_pos d]at h;exact absurd h d
theorem A9 {J:Jo} (h:bq J=0):Jn.tree J=bQ J J.cos.length:=by
 obtain⟨_,_,_,d,_⟩:=ov h
 rw[bQ,List.take_length,Jn.tree,uV (by rw[d])]
def lA (l:List Co) (i k:Nat):Prop:= ∀x∈l.take k,∀y,l[i]?=some y→x.ke.data.toList≠y.ke.data.toList
theorem Ba (l:List Co) (i:Nat):lA l i 0:=fun x d=>by simp at d
theorem Bb {l:List Co} {i k:Nat} (h:lA l i k) (E:k<l.length) (A:i<l.length) (z:l[k].ke.data.toList≠l[i].ke.data.toList):lA l i (k+1):=by
 intro x f y d;rw[List.take_succ_eq_append_getElem E,List.mem_append,List.mem_singleton]at f;rcases f with f|rfl
 · exact h x f y d
 · rw[List.getElem?_eq_getElem A]at d
   injection d with d
   rw[←d];exact z
theorem Bc {l:List Co} {i:Nat} (d:i<l.length) (h:Jn.Apart (l.take i)) (z:lA l i i):Jn.Apart (l.take (i+1)):=by
 rw[List.take_succ_eq_append_getElem d,Jn.Apart,List.pairwise_append];refine⟨h,by simp,fun x A y f=>?_⟩
 rw[List.mem_singleton]at f;exact z x A y (by rw[f];exact List.getElem?_eq_getElem d)
theorem Bd {l:List Co} {i k:Nat} (f:i<l.length) (y:k<i) (d:l[k].ke.data.toList=l[i].ke.data.toList): ¬Jn.Apart l:=fun h=>(List.pairwise_iff_getElem.1 h k i (by omega) f y) d
def Jn.key (p:ByteArray):Lit:= .string p.data.toList
def Jn.num (n:Int):DataW Unit:= .lit (.int .i64 n)
def Jn.D (l:List Co):DataW Unit:=l.foldl (fun m c=>m.put (Jn.key c.ke) (Jn.num c.nu)) (.map [])
theorem Jn.D_snoc (l:List Co) (c:Co):Jn.D (l++[c])=(Jn.D l).put (Jn.key c.ke) (Jn.num c.nu):=by simp[Jn.D]
theorem uW {l:List Co} {k:Nat} (d:k<l.length):Jn.D (l.take (k+1))=(Jn.D (l.take k)).put (Jn.key l[k].ke) (Jn.num l[k].nu):=by
 rw[List.take_succ_eq_append_getElem d,Jn.D_snoc]
theorem ox (p:ByteArray):WideAt.IsKeyLit (Jn.key p):=by simp[Jn.key,WideAt.IsKeyLit]
theorem Jn.key_inj {p q:ByteArray} (h:Jn.key p=Jn.key q):p.data.toList=q.data.toList:=by simpa[Jn.key]using h
theorem nw (l:List Co):Maps.Tidy (Jn.D l):=by
 have: ∀(l:List Co) (m:DataW Unit),Maps.Tidy m→Maps.Tidy (l.foldl (fun m c=>m.put (Jn.key c.ke) (Jn.num c.nu)) m):=by
  intro l;induction l with
  |nil=>intro m h;exact h
  |cons c r ih=>intro m h;exact ih _ (h.put (ox _) _)
 exact this l _ Maps.tidy_empty
def Jn.hasB (l:List Co) (p:List UInt8):Bool:=l.any (fun c=>c.ke.data.toList==p)
theorem Jn.snoc_ind {d:Type} {P:List d→Prop} (f:P []) (y: ∀L e,P L→P (L++[e])) (L:List d):P L:=by
 have h: ∀R:List d,P R.reverse:=fun R=>by
  induction R with
  |nil=>exact f
  |cons a r ih=>rw[List.reverse_cons];exact y _ _ ih
 have z:=h L.reverse;rwa [List.reverse_reverse]at z
theorem qN (l:List Co) (p:ByteArray):Maps.has (Jn.D l) (Jn.key p)=Jn.hasB l p.data.toList:=by
 refine Jn.snoc_ind (P:=fun l=>Maps.has (Jn.D l) (Jn.key p)=Jn.hasB l p.data.toList) rfl ?_ l
 intro l c ih;rw[Jn.D_snoc,Jn.hasB,List.any_append];by_cases d:Jn.key p=Jn.key c.ke
 · rw[d,Maps.has_put_same (nw l).isMap (ox _)]
   simp[Jn.key_inj d]
 · rw[Maps.has_put_other d,ih,Jn.hasB]
   have f: ¬c.ke.data=p.data:=fun h=>d (by rw[Jn.key,Jn.key,h])
   simp[f]
theorem Jn.D_size (l:List Co):Maps.size (Jn.D l)≤l.length∧(Maps.size (Jn.D l)=l.length↔Jn.Apart l):=by
 refine Jn.snoc_ind (P:=fun l=>Maps.size (Jn.D l)≤l.length∧(Maps.size (Jn.D l)=l.length↔Jn.Apart l)) ⟨Nat.le_refl _,⟨fun _=>List.Pairwise.nil,fun _=>rfl⟩⟩ ?_ l
 intro l c ⟨E,f⟩;rw[Jn.D_snoc,Maps.size_put (nw l),qN,List.length_append,Jn.Apart,List.pairwise_append];cases hb:Jn.hasB l c.ke.data.toList with
 |true=>
  rw[if_pos rfl];refine⟨by omega,⟨fun h=>?_,fun h=>?_⟩⟩
  · simp at h;omega
  · obtain⟨x,A,y⟩:=List.any_eq_true.1 hb
    exact absurd (by simpa using y) (h.2.2 x A c (by simp))
 |false=>
  rw[if_neg (by simp)];refine⟨by simp;omega,⟨fun h=>?_,fun h=>?_⟩⟩
  · refine⟨f.1 (by simp at h;omega),by simp,fun a z b d=>?_⟩
    simp at d
    subst d;intro y;have:=List.any_eq_false.1 hb a z
    simp[y]at this
  · have:=f.2 h.1
    simp;omega
def Jn.numOf (l:List Co) (p:List UInt8):Int:=match l.find? (fun c=>c.ke.data.toList==p)with
 |some c=>c.nu
 |none=>0
theorem Jn.D_at {l:List Co} (h:Jn.Apart l) (p:ByteArray) (z:Int):Jn.hasB l p.data.toList=true→(Jn.D l).atKey (Jn.key p) (Jn.num z)=Jn.num (Jn.numOf l p.data.toList):=by
 revert h
 refine Jn.snoc_ind (P:=fun l=>Jn.Apart l→Jn.hasB l p.data.toList=true→(Jn.D l).atKey (Jn.key p) (Jn.num z)=Jn.num (Jn.numOf l p.data.toList)) (fun _ h=>by cases h) ?_ l
 intro l c ih ha hb;rw[Jn.Apart,List.pairwise_append]at ha;rw[Jn.D_snoc];by_cases f:Jn.key p=Jn.key c.ke
 · have E:=Jn.key_inj f
   rw[f,Maps.atKey_put_same (nw l).isMap (ox _)]
   have d:l.find? (fun c=>c.ke.data.toList==p.data.toList)=none:=by
    rw[List.find?_eq_none];intro x F A;exact ha.2.2 x F c (by simp) (by simp at A;rw[A,E])
   rw[Jn.numOf,List.find?_append,d];simp[E]
 · rw[Maps.atKey_put_other f]
   have y: ¬c.ke.data=p.data:=fun h=>f (by rw[Jn.key,Jn.key,h])
   rw[Jn.hasB,List.any_append]at hb;simp[y]at hb
   rw[ih ha.1 (by rw[Jn.hasB,List.any_eq_true];simpa using hb),Jn.numOf,Jn.numOf,List.find?_append];simp[y]
theorem iS {P:Program} {H:Array Oper} {o:Oper} {a:Act} {w:World} {K:Act→World→Prop} {Q:Exit→Act→World→Prop} {E:Prop}
    (U:o.guard=none) (s x:Operand) (t:TypeId) (M:o.op=Op.call {callee:=Callee.builtin Builtin.append,args:= #[s,x],argTypes:= #[t,t]})
    (base:Nat) (e:TypeId) (i:TypeInfo) (z:Value) (size bytes:Nat) (Z:P.underlying t=some (.slice e)) (V:P.info? e=some i) (hz:i.zero=some z)
    (F:i.size=size) (J:i.bytes=bytes) (O:z.cells.size=size) (N:0<size)
    (v:Value) (n:Nat) (xs:List Value) (Y:a.eval s=v) (G:w.ownsRow base e size v n xs)
    (ad:Addr) (m c:Nat) (d:List Value) (hx:a.eval x= .slice (some ad) m c) (X:d.length=m*size) (A: ∀j u,d[j]?=some u→w.cell? (ad.add j)=some u) (T: ∀u∈d,u.oneCell'=true)
    (I:n+m≤maxLen) (f:(n+m)*bytes≤140737488355328) (y:base≤w.heap.size)
    (h: ∀S w',w'.ownsRow base e size S (n+m) (xs++d)→w.grownBy w' v.ownBlock→(S= .slice none 0 0↔v= .slice none 0 0∧m=0)→K (a.put o.dst S) w'):
    if Region.wanted o (yielded H a.tmps)=true then Oper.wp P o a w K Q else E:=by
 have hw:Region.wanted o (yielded H a.tmps)=true:=by simp[Region.wanted,U]
 rw[if_pos hw];exact wp_append_own w s x t M base e i z size bytes Z V hz F J O N v n xs Y G ad m c d hx X A T I f y h
theorem oy (k:Int) (p q t:ByteArray) (b:Int) (w:World) (S:p.size≤1000000000000000) (hq:q.size≤1000000000000000) (ht:t.size≤1000000000000000):
    Calls prog 228 #[.agg #[.int .i64 k,.string p,.string q,.string t,.int .i64 b]] w fun e w'=>e= .returned (.int .i64 (aQ ⟨k,p,q,t,b⟩))∧Below w.heap.size w w':=by
 by_cases Y:k<1
 · have y:=hid (show 7=aQ ⟨k,p,q,t,b⟩from by rw[aQ,if_pos (Or.inl Y)])
   go_enter func228,ntmps228
   go_wp2;go_ret;exact⟨aD y.out,(Below.refl _ _).alloc (Nat.le_refl _) _⟩
 by_cases Z:4<k
 · have y:=hid (show 7=aQ ⟨k,p,q,t,b⟩from by rw[aQ,if_pos (Or.inr Z)])
   go_enter func228,ntmps228
   go_wp2;go_ret;exact⟨aD y.out,(Below.refl _ _).alloc (Nat.le_refl _) _⟩
 by_cases H:az p.data.toList=0
 · have U:Hid (az p.data.toList=0):=H
   have h4:(k=1∨k=4)∨k=2∨k=3:=by omega
   clear Y Z;rcases h4 with h|rfl|rfl
   · have f:=ux h p q t b H
     clear H;rcases h with rfl|rfl
     all_goals
      rcases f with⟨G,y⟩|⟨G,I,y⟩|⟨G,I,P,V,y⟩|⟨G,I,P,V,y⟩|⟨G,I,P,V,f5,y⟩
     all_goals
      go_enter func228,ntmps228
      go_wp2_with fail;refine(fQ p _ S).mono ?_
      rintro e X ⟨rfl,d⟩;rw[U.out];obtain⟨J,K,M,N,O,z,F⟩:=aw d
      clear d;go_wp2_with fail;go_ret;exact⟨aD y.out,z⟩
   · have f:=uy p q t b H
     clear H;rcases f with⟨G,y⟩|⟨G,I,y⟩|⟨G,I,P,y⟩|⟨G,I,P,y⟩|⟨G,I,P,V,y⟩
     all_goals
      go_enter func228,ntmps228
      go_wp2_with fail;refine(fQ p _ S).mono ?_
      rintro e X ⟨rfl,d⟩;rw[U.out];obtain⟨J,K,M,N,O,z,F⟩:=aw d
      clear d;go_wp2_with fail;go_ret;exact⟨aD y.out,z⟩
   · by_cases T:az q.data.toList=0
     · have f:=uz p q t b H T
       have HY:Hid (az q.data.toList=0):=T;clear H T;rcases f with⟨G,y⟩|⟨G,I,P,y⟩|⟨G,I,P,y⟩|⟨G,I,P,V,y⟩
       all_goals
        go_enter func228,ntmps228
        go_wp2_with fail;refine(fQ p _ S).mono ?_
        rintro e X ⟨rfl,d⟩;rw[U.out];obtain⟨J,K,M,N,O,z,F⟩:=aw d
        go_wp2_with fail;refine(fQ q _ hq).mono ?_
        rintro e w2 ⟨rfl,E⟩;rw[HY.out];have A:=d.trans (E.mono d.size);clear J K M N O z F d E;obtain⟨J,K,M,N,O,z,F⟩:=aw A
        clear A;go_wp2_with fail;go_ret;exact⟨aD y.out,z⟩
     · have y:=hid (show az q.data.toList=aQ ⟨3,p,q,t,b⟩from by simp[aQ,H,T])
       have I0:(az q.data.toList==0)=false:=by simpa using T
       clear H;go_enter func228,ntmps228
       go_wp2_with fail;refine(fQ p _ S).mono ?_
       rintro e X ⟨rfl,d⟩;rw[U.out];obtain⟨J,K,M,N,O,z,F⟩:=aw d
       go_wp2_with fail;refine(fQ q _ hq).mono ?_
       rintro e w2 ⟨rfl,E⟩;have A:=d.trans (E.mono d.size);clear J K M N O z F d E;obtain⟨J,K,M,N,O,z,F⟩:=aw A
       clear A;go_wp2_with fail;go_ret;exact⟨aD y.out,z⟩
 · have y:=hid (show az p.data.toList=aQ ⟨k,p,q,t,b⟩from by rw[aQ,if_neg (by simp only;omega),if_pos H])
   have I5:(az p.data.toList==0)=false:=by simpa using H
   go_enter func228,ntmps228
   go_wp2_with fail;refine(fQ p _ S).mono ?_
   rintro e X ⟨rfl,Q⟩;obtain⟨J,K,M,N,O,hb,F⟩:=aw Q
   clear Q;go_wp2_with fail;go_ret;exact⟨aD y.out,hb⟩
def Jn.newE (J:Jo) (l:List ay):Int:=if l=[]then 1 else if 1000000<Jn.last J+1 then 3 else cF (Jn.tree J) l (Jn.last J+1)
def Be:Jo:=⟨[],0,[]⟩
theorem Bf {T:List En} {cs:List ay} {n:Int} (h:cF T cs n=0):cs.length≤20:=by
 have d:aH T=0:=by
  by_cases d:aH T=0
  · exact d
  · rw[(pX d cs n).1]at h;exact absurd h d
 rcases Nat.lt_or_ge 20 cs.length with f|f
 · rw[(oa d f n).1]at h;cases h
 · exact f
theorem uX: ∀{n:Int} {T:List En} {l:List Co},(cU n T l).1=0→ ∀c∈l,c.ch.length≤20
 |n,T,[],_,c,hc=>by cases hc
 |n,T,d::r,h,c,hc=>by
  rw[cU]at h;by_cases y:cT d n=0
  · rw[if_neg (fun x=>x y)]at h
    by_cases f:cF T d.ch d.nu=0
    · rw[if_neg (fun x=>x f)]at h
      rcases List.mem_cons.1 hc with rfl|hc
      · exact Bf f
      · exact uX h c hc
    · rw[if_pos f]at h;exact absurd h f
  · rw[if_pos y]at h;exact absurd h y
theorem Bg {J:Jo} (h:bq J=0): ∀c∈J.cos,c.ch.length≤20:=by
 obtain⟨_,_,_,d,_⟩:=ov h
 exact uX (n:=J.first) (T:=J.base) (by rw[d])
def oz (w:World) (sx:Value) (m size:Nat) (news:List Value):Prop:=(sx= .slice none 0 0∧m=0∧news=[])∨ ∃ad c,sx= .slice (some ad) m c∧news.length=m*size∧(∀j u,news[j]?=some u→w.cell? (ad.add j)=some u)
theorem oz.own {w:World} {B:Nat} {e:TypeId} {size:Nat} {v:Value} {n:Nat} {xs:List Value} (h:w.ownsRow B e size v n xs):oz w v n size xs:=by
 have F:=h;obtain⟨E,G⟩:=h
 rcases G with⟨rfl,rfl⟩|⟨g,f,cur,rfl,H,I,K,J,M,z⟩
 · exact Or.inl ⟨rfl,rfl,List.length_eq_zero_iff.1 (by rw[E];simp)⟩
 · refine Or.inr ⟨⟨g,0,none⟩,f,rfl,E,fun j u A=>?_⟩
   have d:(⟨g,0,none⟩:Addr).add j=⟨g,j,none⟩:=by unfold Addr.add;split<;>simp_all
   have y:j<n*size:=by
    have:=(List.getElem?_eq_some_iff.1 A).1
    omega
   rw[d,F.cellAt j y];exact A
theorem Bh {P:Program} {w:World} {J:Array Oper} {rest:List Oper} {o:Oper} {a:Act} {Q:Exit→Act→World→Prop} (G:o.guard=none)
    (s x:Operand) (t:TypeId) (H:o.op=Op.call {callee:=Callee.builtin Builtin.append,args:= #[s,x],argTypes:= #[t,t]})
    (base:Nat) (e:TypeId) (i:TypeInfo) (z:Value) (size bytes:Nat) (Z:P.underlying t=some (.slice e)) (X:P.info? e=some i) (hz:i.zero=some z)
    (F:i.size=size) (S:i.bytes=bytes) (V:z.cells.size=size) (U:0<size)
    (v:Value) (n:Nat) (xs:List Value) (Y:a.eval s=v) (f:w.ownsRow base e size v n xs)
    (sx:Value) (m:Nat) (d:List Value) (hx:a.eval x=sx) (T:oz w sx m size d) (N: ∀u∈d,u.oneCell'=true)
    (O:n+m≤maxLen) (y:(n+m)*bytes≤140737488355328) (A:base≤w.heap.size)
    (h: ∀M w',w'.ownsRow base e size M (n+m) (xs++d)→w.grownBy w' v.ownBlock→wpList P J Q rest (a.put o.dst M) w'):
    wpList P J Q (o::rest) a w:=by
 rcases T with⟨rfl,rfl,rfl⟩|⟨ad,c,rfl,hl,E⟩
 · refine wpList_plain G fun K hK=>?_
   have I:=run_append_owned_none (P:=P) (w:=w) base t o.type e i size Z X v n xs f;unfold Oper.wp;simp[execOp,H,resolve,invoke,builtin,Y,hx,I,Result.andThen]
   exact hK _ _ (h v w (by simpa using f) (World.grownBy.refl _ _))
 · exact wpList_append_own w G s x t H base e i z size bytes Z X hz F S V U v n xs Y f ad m c d hx hl E N O y A fun M w' N h2 _=>h M w' N h2
def Sp.rd:Value→Option (DataW Unit×List MemPlace)
 | .agg cs=>match cs.toList with
  |[.int .i64 a,.string t,.int .i64 n]=>some (.agg [.lit (.int .i64 a),.lit (.string t.data.toList),.lit (.int .i64 n)],[])
  |_=>none
 |_=>none
def kN (a:Int) (t:ByteArray) (n:Int):DataW Unit:= .agg [.lit (.int .i64 a),.lit (.string t.data.toList),.lit (.int .i64 n)]
theorem Sp.rd_mk (a:Int) (t:ByteArray) (n:Int):Sp.rd (.agg #[.int .i64 a,.string t,.int .i64 n])=some (kN a t n,[]):=rfl
theorem uY {v:Value} {a:Int} {t:ByteArray} {n:Int} {I:List MemPlace} (h:Sp.rd v=some (kN a t n,I)):v= .agg #[.int .i64 a,.string t,.int .i64 n]:=by
 unfold Sp.rd at h;split at h
 · rename_i cs
   split at h
   · rename_i y f H d
     simp only[kN,Option.some.injEq,Prod.mk.injEq,DataW.agg.injEq,List.cons.injEq,DataW.lit.injEq,Lit.int.injEq,Lit.string.injEq,true_and,and_true]at h;obtain⟨⟨z,A,E⟩,_⟩:=h
     have G:f=t:=by
      cases f;cases t
      congr 1
      exact Array.toList_inj.1 A
     have F:cs= #[.int .i64 y,.string f,.int .i64 H]:=by cases cs;simp at d;rw[d]
     rw[F,z,G,E]
   · cases h
 · cases h
def Sp.key (p:ByteArray):Lit:= .string p.data.toList
def Sp.one (p:ByteArray) (a:Int) (t:ByteArray) (n:Int):DataW Unit:=(DataW.map []).put (Sp.key p) (kN a t n)
theorem Tryz.zeroSpot (w:World):(zeroValue 225).run prog w= .ok (.agg #[.int .i64 0,.string ⟨#[]⟩,.int .i64 0]) w:=by rw[Tryz.zeroValue225]
theorem Bi (p t:ByteArray) (n:Int) (w:World):
    Calls prog 151 #[.agg #[.string p,.bool false,.string t,.int .i64 n]] w fun e w'=>e= .returned (.agg #[.int .i64 2,.string t,.int .i64 n])∧Below w.heap.size w w':=by
 go_enter func151,ntmps151
 go_wp2_with fail;refine bodyPost_ret (v:= .agg #[.int .i64 2,.string t,.int .i64 n]) (by simp[results,results151,go_sem]) rfl ⟨rfl,?_⟩
 first|exact((Below.refl _ _).alloc (Nat.le_refl _) _).alloc (by simp) _|(trace_state;fail)
theorem Tryz.makeSpots (n:Int) (w:World):(Instr.makeMap 180 (some (.int .i64 n))).run prog w= .ok (.map (some w.heap.size)) (w.alloc (.map #[] 0)):=by
 simp[Instr.makeMap,run_underlying underlying180,asInt,asIntOf,Result.andThen]
theorem snoc_ind {d:Type} {P:List d→Prop} (f:P []) (y: ∀L e,P L→P (L++[e])) (L:List d):P L:=by
 have h: ∀R:List d,P R.reverse:=fun R=>by
  induction R with
  |nil=>exact f
  |cons a r ih=>rw[List.reverse_cons];exact y _ _ ih
 have z:=h L.reverse;rwa [List.reverse_reverse]at z
def Sp.wh (e:En):Int:=if e.folder=true then 1 else 2
def Sp.tx (e:En):ByteArray:=if e.folder=true then⟨#[]⟩else e.text
def Sp.put (m:DataW Unit) (e:En):DataW Unit:=m.put (Sp.key e.path) (kN (Sp.wh e) (Sp.tx e) e.ver)
def Sp.D (L:List En):DataW Unit:=L.foldl Sp.put (.map [])
theorem Sp.D_snoc (L:List En) (e:En):Sp.D (L++[e])=Sp.put (Sp.D L) e:=by simp[Sp.D]
theorem Sp.key_inj {p q:ByteArray} (h:Sp.key p=Sp.key q):p.data.toList=q.data.toList:=by simpa[Sp.key]using h
theorem uZ (L:List En):IsMap (Sp.D L):=by
 have: ∀(L:List En) (m:DataW Unit),IsMap m→IsMap (L.foldl Sp.put m):=by
  intro L;induction L with
  |nil=>intro m h;exact h
  |cons e r ih=>intro m h;exact ih _ (h.put _ _)
 exact this L _ isMap_empty
def Sp.Apart (L:List En):Prop:=L.Pairwise (fun x y=>x.path.data.toList≠y.path.data.toList)
theorem Sp.Apart.snoc {L:List En} {e:En} (h:Sp.Apart (L++[e])):Sp.Apart L∧ ∀x∈L,x.path.data.toList≠e.path.data.toList:=by
 rw[Sp.Apart,List.pairwise_append]at h;exact⟨h.1,fun x d=>h.2.2 x d e (by simp)⟩
def Sp.at_ (L:List En) (p:List UInt8):Option En:=L.find? (aO p)
theorem mi {p:List UInt8} {e:En}:aO p e=true↔e.path.data.toList=p:=by simp[aO]
theorem Sp.D_at {L:List En} (h:Sp.Apart L) (p:ByteArray) (z:DataW Unit):(Sp.D L).atKey (Sp.key p) z=match Sp.at_ L p.data.toList with|some e=>kN (Sp.wh e) (Sp.tx e) e.ver|none=>z:=by
 revert h
 refine snoc_ind (P:=fun L=>Sp.Apart L→(Sp.D L).atKey (Sp.key p) z=match Sp.at_ L p.data.toList with|some e=>kN (Sp.wh e) (Sp.tx e) e.ver|none=>z) (fun _=>rfl) ?_ L
 · intro L e ih h
   obtain⟨G,H⟩:=h.snoc
   rw[Sp.D_snoc,Sp.put];by_cases y:Sp.key p=Sp.key e.path
   · have F:=Sp.key_inj y
     rw[y,atKey_put_same (uZ L) (by simp[Sp.key,WideAt.IsKeyLit])]
     have d:L.find? (aO p.data.toList)=none:=by
      rw[List.find?_eq_none];intro x I A;exact H x I ((mi.1 A).trans F)
     have f:aO p.data.toList e=true:=mi.2 F.symm;rw[Sp.at_,List.find?_append,d];simp[f]
   · rw[atKey_put_other y,ih G]
     have E:aO p.data.toList e=false:=by
      cases A:aO p.data.toList e with
      |false=>rfl
      |true=>
       have:=mi.1 A
       exact absurd (by rw[Sp.key,Sp.key,this]) y
     rw[Sp.at_,Sp.at_,List.find?_append];simp[E]
theorem Bj {m:DataW Unit} (H:IsMap m) {e:En} (y: ∀x∈strKeys m,x≠e.path.data.toList) (G: ∃d,m= .map d∧ ∀q∈d,∃b,q.1= .string b):(strKeys (Sp.put m e)).Perm (e.path.data.toList::strKeys m):=by
 obtain⟨d,rfl,f⟩:=G
 have F:(d.filter fun q=> !q.1.sameKey (Sp.key e.path))=d:=by
  rw[List.filter_eq_self];intro q z;obtain⟨b,hb⟩:=f q z
  have A:b∈strKeys (DataW.map d):=List.mem_map.2 ⟨q,z,by rw[hb];rfl⟩;have E:=y b A;rw[hb];simp[Lit.sameKey,Sp.key,E]
 show(List.map _ (DataW.insert (Sp.key e.path,_) (d.filter fun q=> !q.1.sameKey (Sp.key e.path)))).Perm _
 rw[F];exact((WideShapes.insert_perm _ d).map _).trans (by simp[strKeys,Sp.key,strOf])
theorem vd (L:List En): ∃d,Sp.D L= .map d∧ ∀q∈d,∃b,q.1= .string b:=by
 refine snoc_ind (P:=fun L=> ∃d,Sp.D L= .map d∧ ∀q∈d,∃b,q.1= .string b) ⟨[],rfl,fun q f=>by cases f⟩ ?_ L
 · intro L e ih
   obtain⟨d,y,z⟩:=ih
   rw[Sp.D_snoc,y];refine⟨_,rfl,fun q f=>?_⟩
   rcases List.mem_cons.1 ((WideShapes.insert_perm _ _).mem_iff.1 f)with h|h
   · exact⟨_,by rw[h];rfl⟩
   · exact z q (List.mem_filter.1 h).1
theorem qO {L:List En} (h:Sp.Apart L):(strKeys (Sp.D L)).Perm (L.map (fun e=>e.path.data.toList)):=by
 revert h
 refine snoc_ind (P:=fun L=>Sp.Apart L→(strKeys (Sp.D L)).Perm (L.map (fun e=>e.path.data.toList))) (fun _=>List.Perm.refl _) ?_ L
 · intro L e ih h
   obtain⟨f,z⟩:=h.snoc
   have d:=ih f;rw[Sp.D_snoc,List.map_append];refine(Bj (uZ L) (fun x A=>?_) (vd L)).trans ?_
   · obtain⟨y,E,rfl⟩:=List.mem_map.1 (d.mem_iff.1 A)
     exact z y E
   · exact(d.cons _).trans (List.perm_append_comm (l₁:=[e.path.data.toList]))
theorem Sp.D_size {L:List En} (h:Sp.Apart L):Maps.size (Sp.D L)=L.length:=by
 obtain⟨f,d,_⟩:=vd L
 have:=(qO h).length_eq
 rw[d]at this⊢;simpa[strKeys,Maps.size]using this
theorem jZ {L:List En} (h:L.Pairwise (fun x y=>Pp.lt x y=true)):Sp.Apart L:=by
 refine List.Pairwise.imp ?_ h
 intro x y d e;rw[Pp.lt,Lib.toList_data,Lib.toList_data,e,bytesLess_eq]at d;exact List.lt_irrefl _ (of_decide_eq_true d)
theorem Bl {L:List En} (h:L.Pairwise (fun x y=>Pp.lt x y=true)) {ss:List (List UInt8)} (E:ss.Perm (strKeys (Sp.D L))):ss.mergeSort (fun x y=>decide (x≤y))=L.map (fun e=>e.path.data.toList):=by
 have A:(ss.mergeSort (fun x y=>decide (x≤y))).Perm (L.map (fun e=>e.path.data.toList)):=(List.mergeSort_perm _ _).trans (E.trans (qO (jZ h)))
 have d:(ss.mergeSort (fun x y=>decide (x≤y))).Pairwise (fun x y=>x≤y):=by
  have:=List.pairwise_mergeSort (le:=fun(x y:List UInt8)=>decide (x≤y)) (fun a b c d f=>by simpa using List.le_trans (by simpa using d) (by simpa using f)) (fun a b=>by simpa using List.le_total a b) ss
  exact this.imp (fun h=>by simpa using h)
 have f:(L.map (fun e=>e.path.data.toList)).Pairwise (fun x y=>x≤y):=by
  rw[List.pairwise_map];refine List.Pairwise.imp ?_ h
  intro x y z;rw[Pp.lt,Lib.toList_data,Lib.toList_data,bytesLess_eq,decide_eq_true_eq]at z;exact List.le_of_lt z
 exact A.eq_of_pairwise (fun a b _ _ d f=>List.le_antisymm d f) d f
theorem Bk.mem {H:Type} {d:DataW H}: ∀{l:List (DataW H)},d∈l→Rows.uptoBulk d≤Rows.uptoBulkAll l
 |[],h=>by cases h
 |x::r,h=>by
  rw[Rows.uptoBulkAll];rcases List.mem_cons.1 h with rfl|h
  · omega
  · have:=Bk.mem h;omega
theorem Bk.len {H:Type}: ∀{l:List (DataW H)},(∀d∈l,1≤Rows.uptoBulk d)→l.length≤Rows.uptoBulkAll l
 |[],_=>Nat.zero_le _
 |x::r,h=>by
  rw[Rows.uptoBulkAll,List.length_cons];have y:=h x (by simp);have z:=Bk.len (l:=r) fun d f=>h d (by simp[f])
  omega
theorem Tryz.cellsE:prog.cellsOf 107=4:=by kernel_rfl
theorem Tryz.cells9:prog.cellsOf 9=1:=by kernel_rfl
theorem Tryz.cells4:prog.cellsOf 4=1:=by kernel_rfl
theorem Tryz.cells3:prog.cellsOf 3=1:=by kernel_rfl
def oA {H:Type} (e:En):DataW H:= .agg [.lit (.string e.path.data.toList),.lit (.bool e.folder),.lit (.string e.text.data.toList),.lit (.int .i64 e.ver)]
theorem qP {H:Type} (e:En):Rows.uptoBulk (oA (H:=H) e)=e.path.size+e.text.size+5:=by
 rw[oA,Rows.uptoBulk,Rows.uptoBulkAll,Rows.uptoBulkAll,Rows.uptoBulkAll,Rows.uptoBulkAll,Rows.uptoBulkAll,Rows.uptoBulk,Rows.uptoBulk,Rows.uptoBulk,Rows.uptoBulk,Lib.size_eq,Lib.size_eq]
 · omega
 · intro b h;cases h
 · intro b h;cases h
theorem ve {f:Type} {l:List f} (h:l.length=4): ∃a b c d,l=[a,b,c,d]:=by
 rcases l with _|⟨a,_|⟨b,_|⟨c,_|⟨d,_|⟨e,r⟩⟩⟩⟩⟩
 all_goals first|exact⟨a,b,c,d,rfl⟩|(simp at h)
theorem mj {W:World} {a:Addr} {v:Value} (k:W.cell? a=some v):a.spot=none:=by
 unfold World.cell? at k;cases d:a.spot with
 |none=>rfl
 |some z=>rw[d]at k;simp at k;split at k<;>cases k
theorem Bm {H:Type} {enc:TypeId×Value→H} {W:World} {n i:Nat} {a:Addr} {x:DataW H} {pl:List MemPlace} {y:List Value} (ha:a.spot=none)
    (S:W.cells? 0 (a.add (i*prog.cellsOf 107)) (prog.cellsOf 107)=some y) (h2:DataW.trod enc prog W 0 (fun _=>true) true n 107 y=some (x,pl)):
    ∃e:En,x=oA e∧a.spot=none∧dp W a.block (a.off+i*4) e:=by
 rw[Tryz.cellsE]at S;obtain⟨_,z,E⟩:=World.cells?_some S
 obtain⟨y0,y1,al,y3,F,A,_,bV,t1,t2,t3⟩:=Go.Joins.trod_struct4 underlying107 h2
 obtain⟨N,O,P,Q,rfl⟩:=ve z
 have I:DataW.trod enc prog W 0 (fun _=>true) true F 9 [N]=some y0:=by simpa[Tryz.cells9]using bV
 have J:DataW.trod enc prog W 0 (fun _=>true) true F 4 [O]=some y1:=by simpa[Tryz.cells4]using t1
 have K:DataW.trod enc prog W 0 (fun _=>true) true F 9 [P]=some al:=by simpa[Tryz.cells9]using t2
 have M:DataW.trod enc prog W 0 (fun _=>true) true F 3 [Q]=some y3:=by simpa[Tryz.cells3]using t3
 obtain⟨Y,aL,g0,_⟩:=DataW.trod_string underlying9 I
 obtain⟨Z,e1,g1⟩:=DataW.trod_bool underlying4 J
 obtain⟨s2,aE,g2,_⟩:=DataW.trod_string underlying9 K
 obtain⟨s3,e3,g3,_⟩:=DataW.trod_int underlying3 M
 obtain rfl:N= .string Y:=by simpa using aL
 obtain rfl:O= .bool Z:=by simpa using e1
 obtain rfl:P= .string s2:=by simpa using aE
 obtain rfl:Q= .int .i64 s3:=by simpa using e3
 subst g0;subst g1;subst g2;subst g3;simp only[Prod.mk.injEq]at A;have T:=E 0 (by omega);have U:=E 1 (by omega);have V:=E 2 (by omega);have X:=E 3 (by omega);obtain⟨ab,ao,G⟩:=a
 obtain rfl:G=none:=ha;refine⟨⟨Y,Z,s2,s3⟩,A.1,rfl,?_,?_,?_,?_⟩
 · by_cases d:i=0
   · subst d;simpa[Addr.add]using T
   · have f:i*4≠0:=by omega
     simpa[Addr.add,f]using T
 · by_cases d:i=0
   · subst d;simpa[Addr.add]using U
   · have f:i*4≠0:=by omega
     simpa[Addr.add,f,Nat.add_assoc]using U
 · by_cases d:i=0
   · subst d;simpa[Addr.add]using V
   · have f:i*4≠0:=by omega
     simpa[Addr.add,f,Nat.add_assoc]using V
 · by_cases d:i=0
   · subst d;simpa[Addr.add]using X
   · have f:i*4≠0:=by omega
     simpa[Addr.add,f,Nat.add_assoc]using X
theorem qQ {B:Nat} (hB:B≤1000000000) {H:Type} {enc:TypeId×Value→H} {W:World} {v:Value} {d:DataW H} {p:List MemPlace} {fuel:Nat} (hf:DataW.trod enc prog W 0 (fun _=>true) true fuel 44 [v]=some (d,p)) (hk:Rows.uptoBulk d≤B):
    ∃L:List En,an W v L∧L.length≤B∧ ∀e∈L,e.path.size≤B∧e.text.size≤B:=by
 haveI:Inhabited En:=⟨⟨⟨#[]⟩,false,⟨#[]⟩,0⟩⟩
 rcases Go.Deep.open_slice underlying44 hf with⟨z,U⟩|⟨a,len,A,m,n,D,Pl,z,hb,hl,hm,K,U,I⟩
 · obtain rfl:v= .slice none 0 0:=by simpa using z
   exact⟨[],⟨none,0,rfl,Nat.le_refl _,by simp,fun i f=>absurd f (by simp)⟩,by simp,fun e O=>by cases O⟩
 obtain rfl:v= .slice (some a) len A:=by simpa using z
 have S:m=A:=K.trans (if_pos rfl);clear K;have G:=(Prod.mk.inj U).1;clear U;subst S
 have T:0<len→a.spot=none:=fun h=>by
  obtain⟨M,y,_⟩:=I 0 (by omega)
  rw[Tryz.cellsE]at y;obtain⟨_,J,Z⟩:=World.cells?_some y
  obtain⟨X,c1,c2,c3,rfl⟩:=ve J
  have k0:=Z 0 (by omega);exact mj (v:=X) (by simpa[Addr.add]using k0)
 have F: ∀i,i<len→ ∃e:En,D i=oA e∧a.spot=none∧dp W a.block (a.off+i*4) e:=fun i f=>by
  obtain⟨M,y,N⟩:=I i (by omega)
  exact Bm (T (by omega)) y N
 obtain⟨E,ae⟩:=Go.Deep.choose_lt F
 have Y:Rows.uptoBulkAll ((List.range len).map D)≤B:=by
  rw[G,Rows.uptoBulk]at hk;omega
 refine⟨(List.range len).map E,⟨some a,_,by simp;rfl,by simpa using hl,?_,fun i f=>?_⟩,?_,fun e O=>?_⟩
 · have:=Bk.len (l:=(List.range len).map D) (fun d G=>by
    obtain⟨i,f,rfl⟩:=List.mem_map.1 G
    rw[(ae i (List.mem_range.1 f)).1,qP];omega)
   simp at this⊢
   omega
 · have P:i<len:=by simpa using f
   obtain⟨y,N,V⟩:=ae i P
   have Q:a.block<W.heap.size:=by
    have k:=V.1;rcases Nat.lt_or_ge a.block W.heap.size with h|h
    · exact h
    · unfold World.cell? at k;rw[Array.getElem?_eq_none h]at k;cases k
   refine⟨a.block,a.off,?_,Q,by simpa using V⟩
   rw[←N]
 · have:=Bk.len (l:=(List.range len).map D) (fun d G=>by
    obtain⟨i,f,rfl⟩:=List.mem_map.1 G
    rw[(ae i (List.mem_range.1 f)).1,qP];omega)
   simp at this⊢
   omega
 · obtain⟨i,f,rfl⟩:=List.mem_map.1 O
   have y:=Bk.mem (List.mem_map.2 ⟨i,f,rfl⟩:D i∈(List.range len).map D);rw[(ae i (List.mem_range.1 f)).1,qP]at y;omega
end Go.Proofs.YtcmlnelpcjfocaaGreatDoor
