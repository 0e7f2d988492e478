/- What All of changes answers, as plain mathematics: where it stops, its error, what came. -/
import Derived.Test.YtgamnckfmmbjdaaGreatDoorWGD
import Derived.Deep.RegionHeld3
import Derived.Deep.RegionLaw
import Derived.Maps.OwnSet
import Derived.StringKeys
import Derived.Deep.AppendLies
import Derived.Test.YtgamnckfmmbjdaaGreatDoorRows
import Derived.Deep.Slices
import Derived.Carry
set_option linter.unusedSimpArgs false
set_option linter.unusedVariables false
namespace Go.Proofs.YtgamnckfmmbjdaaGreatDoor
open Go.RowKit Go.Maps Go.WideMaps Go.ChangeShapes Go.WideShapes Go.ChangeAt Go.Proofs.Tryz
set_option maxHeartbeats 1000000
set_option maxRecDepth 100000
def bJ (L:List En) (cs:List ar) (n:Int):Int:=if¬aA L=0 then aA L else if 20<cs.length then 2 else(cJ n L cs).2.1
def gW (L:List En) (cs:List ar) (n:Int):Nat:=if¬aA L=0 then 0 else if 20<cs.length then 0 else(cJ n L cs).1
def cX (L:List En) (cs:List ar) (n:Int):List En:=if¬aA L=0 then[]else if 20<cs.length then[]else(cJ n L cs).2.2
theorem mM {L:List En} (h: ¬aA L=0) (cs:List ar) (n:Int):bJ L cs n=aA L∧gW L cs n=0∧cX L cs n=[]:=⟨if_pos h,if_pos h,if_pos h⟩
theorem kY {L:List En} (h:aA L=0) {cs:List ar} (a:20<cs.length) (n:Int):bJ L cs n=2∧gW L cs n=0∧cX L cs n=[]:=
 ⟨by rw[bJ,if_neg (fun x=>x h),if_pos a],by rw[gW,if_neg (fun x=>x h),if_pos a],by rw[cX,if_neg (fun x=>x h),if_pos a]⟩
theorem mN {L:List En} (h:aA L=0) {cs:List ar} (a: ¬20<cs.length) {n:Int} {k:Nat} {e:Int} {R:List En} (d:cJ n L cs=(k,e,R)):bJ L cs n=e∧gW L cs n=k∧cX L cs n=R:=
 ⟨by rw[bJ,if_neg (fun x=>x h),if_neg a,d],by rw[gW,if_neg (fun x=>x h),if_neg a,d],by rw[cX,if_neg (fun x=>x h),if_neg a,d]⟩
theorem uC (n:Int) (L:List En):cJ n L []=(0,0,L):=rfl
theorem pO (s t:ByteArray) (f:TypeId) (w:World) (a:s.size≤1000000000000000) (d:t.size≤1000000000000000):
    Calls prog 186 #[.slice (some ⟨w.heap.size,0,none⟩) 2 2] (w.alloc (.cells #[.string s,.string t] f)) fun e w'=>e= .returned (.int .i64 (bq [s.data.toList,t.data.toList]))∧Below w.heap.size w w':=by
 refine(mE [s,t] w.heap.size 2 _ (by simp) (by simp) (fun i h=>?_) (fun i h=>?_)).mono ?_
 · match i,h with
   |0,_=>exact a
   |1,_=>exact d
 · match i,h with
   |0,_=>simp
   |1,_=>simp
 · rintro e w' ⟨rfl,hb⟩
   exact⟨rfl,((Below.refl _ _).alloc (Nat.le_refl _) _).trans (hb.mono (by simp))⟩
theorem kZ (s t u:ByteArray) (j:TypeId) (w:World) (a:s.size≤1000000000000000) (d:t.size≤1000000000000000) (f:u.size≤1000000000000000):
    Calls prog 186 #[.slice (some ⟨w.heap.size,0,none⟩) 3 3] (w.alloc (.cells #[.string s,.string t,.string u] j)) fun e w'=>e= .returned (.int .i64 (bq [s.data.toList,t.data.toList,u.data.toList]))∧Below w.heap.size w w':=by
 refine(mE [s,t,u] w.heap.size 3 _ (by simp) (by simp) (fun i h=>?_) (fun i h=>?_)).mono ?_
 · match i,h with
   |0,_=>exact a
   |1,_=>exact d
   |2,_=>exact f
 · match i,h with
   |0,_=>simp
   |1,_=>simp
   |2,_=>simp
 · rintro e w' ⟨rfl,hb⟩
   exact⟨rfl,((Below.refl _ _).alloc (Nat.le_refl _) _).trans (hb.mono (by simp))⟩
theorem ld (s t:ByteArray) (w:World) (j:s.size≤1000000000000000) (o:t.size≤1000000000000000):
    Calls prog 348 #[.string s,.string t] w fun e w'=>e= .returned (.bool (aI s.data.toList t.data.toList))∧w'=w:=by
 have a:=tH s.data.toList t.data.toList;cases f:(s.toList==t.toList)with
 |true=>
  have d:=hid (show true=aI s.data.toList t.data.toList from by rw[←a,←Lib.toList_data,←Lib.toList_data,f];rfl);clear a;go_enter func348,ntmps348
  go_wp2_with fail;go_ret;exact⟨aV d.out,rfl⟩
 |false=>
  have d:=hid (show Lib.hasPrefix s.data.toList (t++⟨#[47]⟩).data.toList=aI s.data.toList t.data.toList from by
   rw[←a,Joins.data_append];rw[Lib.toList_data,Lib.toList_data]at f;rw[f];simp)
  clear a;go_enter func348,ntmps348
  go_wp2_with fail;refine(Tryz.strings_HasPrefix _ _ _).mono ?_
  rintro e u ⟨rfl,rfl⟩;rw[d.out];go_wp2;go_ret;exact⟨rfl,rfl⟩
theorem mO (s t:ByteArray) (w:World) (d:s.size≤1000000000000000) (f:t.size≤1000000000000000):
    Calls prog 311 #[.string s,.string t] w fun e w'=>e= .returned (.tuple #[.bool (bq [s.data.toList,t.data.toList]==0 && aI s.data.toList t.data.toList),.int .i64 (bq [s.data.toList,t.data.toList])])∧Below w.heap.size w w':=by
 cases o:(bq [s.data.toList,t.data.toList]==0)with
 |true=>
  have j:=hid (show bq [s.data.toList,t.data.toList]=0 from by simpa using o);clear o;go_enter func311,ntmps311
  go_wp2_with fail;refine(pO s t _ _ d f).mono ?_
  rintro e u ⟨rfl,a⟩;rw[j.out];go_wp2_with fail;refine(ld s t _ d f).mono ?_
  rintro e y ⟨rfl,rfl⟩;go_wp2;go_ret2;exact⟨by rw[j.out];rfl,a⟩
 |false=>
  go_enter func311,ntmps311
  go_wp2_with fail;refine(pO s t _ _ d f).mono ?_
  rintro e u ⟨rfl,a⟩;go_wp2;go_ret2;exact⟨rfl,a⟩
theorem uD (p f t:ByteArray) (h:aI p.data.toList f.data.toList=true):f.size≤p.size∧t++p.extract f.size p.size=⟨(bm p.data.toList f.data.toList t.data.toList).toArray⟩:=by
 have a:f.data.toList.length≤p.data.toList.length:=by
  rcases(dN _ _).1 h with e|⟨r,e⟩
  · rw[e];exact Nat.le_refl _
  · rw[e];simp
 refine⟨by rw[Lib.size_eq,Lib.size_eq];exact a,dZ ?_⟩
 rw[Joins.data_append,Lib.extract_data,bm,Lib.size_eq f,Lib.size_eq p,List.take_of_length_le (by rw[List.length_drop];exact Nat.le_refl _)]
theorem pP (p f t:List UInt8):(bm p f t).length≤t.length+p.length:=by simp[bm]
theorem uE {p f t:List UInt8} (h: ¬bq [p,f,t]=0):fI p f t=bq [p,f,t]:=by rw[fI,if_neg h]
theorem uF {p f t:List UInt8} (h:bq [p,f,t]=0) (a:aI p f=false):fI p f t=5:=by rw[fI,if_pos h,if_neg (by rw[a];decide)]
theorem pQ {p f t:List UInt8} (h:bq [p,f,t]=0) (a:aI p f=true):fI p f t=al (bm p f t):=by rw[fI,if_pos h,if_pos a]
theorem mP (p f t:ByteArray) (w:World) (P:p.size≤200000000000000) (O:f.size≤200000000000000) (Q:t.size≤200000000000000):
    Calls prog 314 #[.string p,.string f,.string t] w fun e w'=>e= .returned (.tuple #[.string ⟨(jk (fI p.data.toList f.data.toList t.data.toList) (bm p.data.toList f.data.toList t.data.toList)).toArray⟩,.int .i64 (fI p.data.toList f.data.toList t.data.toList)])∧Below w.heap.size w w':=by
 have E:=pP p.data.toList f.data.toList t.data.toList;rw[←Lib.size_eq,←Lib.size_eq]at E;by_cases d:bq [p.data.toList,f.data.toList,t.data.toList]=0
 · have A:Hid (bq [p.data.toList,f.data.toList,t.data.toList]=0):=d
   cases u:aI p.data.toList f.data.toList with
   |false=>
    have F:Hid (aI p.data.toList f.data.toList=false):=u;have y:Hid (fI p.data.toList f.data.toList t.data.toList=5):=uF d u;clear d u;go_enter func314,ntmps314
    go_wp2_with fail;refine(kZ p f t _ _ (by omega) (by omega) (by omega)).mono ?_
    rintro e H ⟨rfl,a⟩;rw[A.out];go_wp2_with fail;refine(ld p f _ (by omega) (by omega)).mono ?_
    rintro e J ⟨rfl,rfl⟩;rw[F.out];go_wp2;go_ret2;exact⟨by rw[y.out,jQ (by decide)];rfl,a⟩
   |true=>
    have F:Hid (aI p.data.toList f.data.toList=true):=u;have y:Hid (fI p.data.toList f.data.toList t.data.toList=al (bm p.data.toList f.data.toList t.data.toList)):=pQ d u;obtain⟨K,hcut⟩:=uD p f t u
    have j:Hid (t++p.extract f.size p.size=⟨(bm p.data.toList f.data.toList t.data.toList).toArray⟩):=hcut;clear d u hcut;have I:(f.size:Int)≤p.size:=by omega
    by_cases G:al (bm p.data.toList f.data.toList t.data.toList)=0
    · have z:Hid (al (bm p.data.toList f.data.toList t.data.toList)=0):=G
      clear G;go_enter func314,ntmps314
      go_wp2_with fail;refine(kZ p f t _ _ (by omega) (by omega) (by omega)).mono ?_
      rintro e H ⟨rfl,a⟩;rw[A.out];go_wp2_with fail;refine(ld p f _ (by omega) (by omega)).mono ?_
      rintro e J ⟨rfl,rfl⟩;rw[F.out];go_wp2_with fail;rw[j.out];refine(pB ⟨(bm p.data.toList f.data.toList t.data.toList).toArray⟩ _ (by rw[gR];omega) z.out).mono ?_
      rintro e N ⟨rfl,o⟩;go_wp2;go_ret2;exact⟨by rw[y.out,z.out,eH rfl];rfl,bj a o⟩
    · have z:Hid (¬al (bm p.data.toList f.data.toList t.data.toList)=0):=G
      clear G;go_enter func314,ntmps314
      go_wp2_with fail;refine(kZ p f t _ _ (by omega) (by omega) (by omega)).mono ?_
      rintro e H ⟨rfl,a⟩;rw[A.out];go_wp2_with fail;refine(ld p f _ (by omega) (by omega)).mono ?_
      rintro e J ⟨rfl,rfl⟩;rw[F.out];go_wp2_with fail;rw[j.out];refine(t9 ⟨(bm p.data.toList f.data.toList t.data.toList).toArray⟩ _ (by rw[gR];omega) z.out).mono ?_
      rintro e N ⟨rfl,o⟩;go_wp2;go_ret2;exact⟨by rw[y.out,jQ z.out];rfl,bj a o⟩
 · have y:Hid (fI p.data.toList f.data.toList t.data.toList=bq [p.data.toList,f.data.toList,t.data.toList]):=uE d
   have A:Hid (¬bq [p.data.toList,f.data.toList,t.data.toList]=0):=d;have M:(bq [p.data.toList,f.data.toList,t.data.toList]==0)=false:=by simpa using d
   clear d;go_enter func314,ntmps314
   go_wp2_with fail;refine(kZ p f t _ _ (by omega) (by omega) (by omega)).mono ?_
   rintro e H ⟨rfl,a⟩;go_wp2;go_ret2;exact⟨by rw[y.out,jQ A.out];rfl,a⟩
theorem uG (e:En) (g:Nat) (f:Array Value) (u:En→Bool) (b:Nat) (w:World) (hb:b<w.heap.size) (E:w.cell? ⟨b,0,none⟩=some (.func (.func g) #[] f)) (j:cj w g f u) (G:e.path.size≤1000000000000000):
    Calls prog 315 #[.agg #[.string e.path,.bool e.folder,.string e.text,.int .i64 e.ver],.pointer (some ⟨b,0,none⟩)] w fun r w'=>r= .returned (.bool (!u e))∧Below w.heap.size w w':=by
 have F: ∀o,(w.alloc o).cell? ⟨b,0,none⟩=some (.func (.func g) #[] f):=fun o=>(((Below.refl w.heap.size w).alloc (Nat.le_refl _) o).cell (p:=⟨b,0,none⟩) hb).trans E
 have z:Hid (cj w g f u):=j;have A:=j.1;clear j;go_enter func315,ntmps315
 go_wp2_with fail;refine(z.out.2 _ ((Below.refl _ _).alloc (Nat.le_refl _) _) e G).mono ?_
 rintro r M ⟨rfl,a⟩;obtain⟨H,I,J,K,d,y⟩:=cN a
 clear a A;go_wp2;go_ret;exact⟨rfl,d⟩
theorem mQ (g:Nat) (a:Array Value) (d:En→Bool) (w:World) (j:cj w g a d):
    Calls prog 278 #[.func (.func g) #[] a] w fun e w'=>e= .returned (.func (.func 315) #[] #[.pointer (some ⟨w.heap.size,0,none⟩)])∧cj w' 315 #[.pointer (some ⟨w.heap.size,0,none⟩)] (fun e=> !d e)∧Below w.heap.size w w':=by
 have o:Hid (cj w g a d):=j;clear j;go_enter func278,ntmps278
 go_wp2;go_ret;refine⟨rfl,⟨enters_of func315 (by kernel_rfl) rfl,fun W f e u=>?_⟩,(Below.refl _ _).alloc (Nat.le_refl _) _⟩
 exact uG e g a d w.heap.size W (Nat.lt_of_lt_of_le (by simp) f.size) ((f.cell (p:=⟨w.heap.size,0,none⟩) (by simp)).trans (by simp)) (o.out.below (((Below.refl _ _).alloc (Nat.le_refl _) _).trans (f.mono (by simp)))) u
def dk (q:List UInt8) (e:En):Bool:=bq [e.path.data.toList,q]==0 && aI e.path.data.toList q
theorem uH (e:En) (q:ByteArray) (b:Nat) (w:World) (hb:b<w.heap.size) (u:w.cell? ⟨b,0,none⟩=some (.string q)) (A:e.path.size≤1000000000000000) (z:q.size≤1000000000000000):
    Calls prog 312 #[.agg #[.string e.path,.bool e.folder,.string e.text,.int .i64 e.ver],.pointer (some ⟨b,0,none⟩)] w fun r w'=>r= .returned (.bool (dk q.data.toList e))∧Below w.heap.size w w':=by
 have y: ∀o,(w.alloc o).cell? ⟨b,0,none⟩=some (.string q):=fun o=>(((Below.refl w.heap.size w).alloc (Nat.le_refl _) o).cell (p:=⟨b,0,none⟩) hb).trans u
 have j:Hid ((bq [e.path.data.toList,q.data.toList]==0 && aI e.path.data.toList q.data.toList)=dk q.data.toList e):=rfl;go_enter func312,ntmps312
 go_wp2_with fail;refine(mO e.path q _ A z).mono ?_
 rintro r I ⟨rfl,a⟩;rw[j.out];obtain⟨E,F,G,H,d,f⟩:=cN a
 clear a;go_wp2;go_ret;exact⟨rfl,d⟩
theorem kf (q:ByteArray) (w:World) (f:q.size≤1000000000000000):
    Calls prog 273 #[.string q] w fun e w'=>e= .returned (.func (.func 312) #[] #[.pointer (some ⟨w.heap.size,0,none⟩)])∧cj w' 312 #[.pointer (some ⟨w.heap.size,0,none⟩)] (dk q.data.toList)∧Below w.heap.size w w':=by
 go_enter func273,ntmps273
 go_wp2;go_ret;refine⟨rfl,⟨enters_of func312 (by kernel_rfl) rfl,fun W a e d=>?_⟩,(Below.refl _ _).alloc (Nat.le_refl _) _⟩
 exact uH e q w.heap.size W (Nat.lt_of_lt_of_le (by simp) a.size) ((a.cell (p:=⟨w.heap.size,0,none⟩) (by simp)).trans (by simp)) d f
theorem kg (L:List En) (v:Value) (g:Nat) (cb:Array Value) (A:En→Bool) (w:World) (hv:aj w v L) (hg:cj w g cb A) (hn:L.length≤1000000000) (hs:cP L):
    Calls prog 277 #[v,.func (.func g) #[] cb] w fun e w'=> ∃u,e= .returned u∧w'.ownsRow w.heap.size 108 4 u (L.filter A).length (bw (L.filter A))∧u≠ .slice none 0 0∧Below w.heap.size w w':=by
 obtain⟨aQ,O,U,V,X⟩:=info_parts Tryz.infoE
 obtain⟨a,C6,rfl,C5,C3,hL⟩:=hv
 have HL:Hid (∀i (h:i<L.length),∃b o,a=some ⟨b,o,none⟩∧b<w.heap.size∧cM w b (o+i*4) L[i]):=hL;have HG:Hid (cj w g cb A):=hg;have HS:Hid (cP L):=hs;have eg:=hg.1;clear hL hg hs;go_enter func277,ntmps277
 go_wp2_with (at_make;refine wpList_make_own _ rfl _ _ 47 rfl w.heap.size 108 aQ (.agg #[.string ⟨#[]⟩,.bool false,.string ⟨#[]⟩,.int .i64 0]) 4 underlying47 O U V .i64 .i64 (L.length:Int) L.length rfl rfl rfl ?m2 ?m3 ?m4 ?_)
 case m2=>rw[X];omega
 case m3=>unfold maxLen;omega
 case m4=>exact Nat.le_refl _
 intro w0 S G;have N:Below w.heap.size w w0:=(Below.refl _ _).grown G (Nat.le_refl _) (fun k hk=>by cases hk);clear G;go_wp2_with fail;go_loopw [5,13] (fun u i wr=> ∃k:Nat,k≤L.length∧i= .int .i64 k∧wr.ownsRow w.heap.size 108 4 u ((L.take k).filter A).length (bw ((L.take k).filter A))∧u≠ .slice none 0 0∧Below w.heap.size w wr) (fun _ i _=>L.length-(intOf i).toNat)
 case atStart=>exact⟨0,Nat.zero_le _,rfl,S,by simp,N⟩
 case round=>
  obtain⟨k,hk,rfl,z,K,d⟩:=hrel
  clear S N
  have C4:((L.take k).filter A).length≤k:=by
   have h1:=List.length_filter_le A (L.take k);have h2:=List.length_take_le k L;omega
  by_cases F:k<L.length
  · obtain⟨b,o,rfl,hb,he⟩:=HL.out k F
    obtain⟨c0,c1,c2,c3⟩:=he.below hb d
    have T:=HS.out L[k] (List.getElem_mem F);cases Y:A L[k]with
    |true=>
     have Z:Hid ((L.take (k+1)).filter A=(L.take k).filter A++[L[k]]):=uh F Y;go_wp2_with fail;refine(HG.out.2 _ (d.alloc d.size _) L[k] T.1).mono ?_
     rintro e w1 ⟨rfl,E⟩;obtain⟨d0,d1,d2,d3,j,P⟩:=cN E
     have f:=bj d j;have y:=eI z j;rw[Y];clear E c0 c1 c2 c3 eg z d j;go_wp2_with (at_builtin;refine wpList_append_own _ rfl _ _ 47 rfl w.heap.size 108 aQ (.agg #[.string ⟨#[]⟩,.bool false,.string ⟨#[]⟩,.int .i64 0]) 4 48 underlying47 O U V X rfl (by decide) _ _ _ rfl (y.alloc _) ⟨w1.heap.size,0,none⟩ 1 1 (Pp.cells L[k]) rfl rfl ?c1 ?c2 ?c3 ?c4 ?c5 ?_)
     case c1=>exact eW w1 L[k] _
     case c2=>exact Pp.cells_one _
     case c3=>unfold maxLen;omega
     case c4=>omega
     case c5=>have:=f.size;simp;omega
     intro v2 w2 M H I;have J:Below w.heap.size w w2:=(f.alloc f.size _).grown H (by have:=f.size;simp;omega) (fun q hq=>(y.lt q hq).1);rw[fv]at M;have HO:Hid (w2.ownsRow w.heap.size 108 4 v2 (((L.take k).filter A).length+1) (bw ((L.take k).filter A++[L[k]]))):=M;have Q:v2≠ .slice none 0 0:=by simpa using I
     clear M H I y f d0 d1 d2 d3 K;go_wp2_with fail;go_roundw
     case rel=>exact⟨k+1,by omega,by simp,by rw[Z.out,List.length_append];exact HO.out,Q,J⟩
     case measure=>simp[intOf];omega
    |false=>
     have Z:Hid ((L.take (k+1)).filter A=(L.take k).filter A):=ui F Y;go_wp2_with fail;refine(HG.out.2 _ (d.alloc d.size _) L[k] T.1).mono ?_
     rintro e w1 ⟨rfl,E⟩;obtain⟨d0,d1,d2,d3,j,P⟩:=cN E
     have f:=bj d j;have y:=eI z j;rw[Y];clear E c0 c1 c2 c3 eg z d j;go_wp2_with fail;go_roundw
     case rel=>exact⟨k+1,by omega,by simp,by rw[Z.out];exact y,K,f⟩
     case measure=>simp[intOf];omega
  · go_wp2_with fail
    go_ret;exact⟨_,rfl,by have e:L.take k=L:=List.take_of_length_le (by omega);rw[e]at z;exact z,K,d⟩
theorem fP {P:Program} {H:Array Oper} {o:Oper} {a:Act} {w:World} {K:Act→World→Prop} {Q:Exit→Act→World→Prop} {E:Prop}
    (U:o.guard=none) (s x:Operand) (t:TypeId) (M:o.op=Op.call {callee:=Callee.builtin Builtin.append,args:= #[s,x],argTypes:= #[t,t]})
    (base:Nat) (e:TypeId) (i:TypeInfo) (z:Value) (size bytes:Nat) (Z:P.underlying t=some (.slice e)) (V:P.info? e=some i) (hz:i.zero=some z)
    (F:i.size=size) (J:i.bytes=bytes) (O:z.cells.size=size) (N:0<size)
    (v:Value) (n:Nat) (xs:List Value) (Y:a.eval s=v) (G:w.ownsRow base e size v n xs)
    (ad:Addr) (m c:Nat) (d:List Value) (hx:a.eval x= .slice (some ad) m c) (X:d.length=m*size) (A: ∀j u,d[j]?=some u→w.cell? (ad.add j)=some u) (T: ∀u∈d,u.oneCell'=true)
    (I:n+m≤maxLen) (f:(n+m)*bytes≤140737488355328) (y:base≤w.heap.size)
    (h: ∀S w',w'.ownsRow base e size S (n+m) (xs++d)→w.grownBy w' v.ownBlock→(S= .slice none 0 0↔v= .slice none 0 0∧m=0)→K (a.put o.dst S) w'):
    if Region.wanted o (yielded H a.tmps)=true then Oper.wp P o a w K Q else E:=by
 have hw:Region.wanted o (yielded H a.tmps)=true:=by simp[Region.wanted,U]
 rw[if_pos hw];exact wp_append_own w s x t M base e i z size bytes Z V hz F J O N v n xs Y G ad m c d hx X A T I f y h
def mR (c:ar):List Value:=[.int .i64 c.k,.string c.p,.string c.q,.string c.t,.int .i64 c.b]
theorem Bk.mem {H:Type} {d:DataW H}: ∀{l:List (DataW H)},d∈l→Rows.uptoBulk d≤Rows.uptoBulkAll l
 |[],h=>by cases h
 |x::r,h=>by
  rw[Rows.uptoBulkAll];rcases List.mem_cons.1 h with rfl|h
  · omega
  · have:=Bk.mem h;omega
theorem Bk.len {H:Type}: ∀{l:List (DataW H)},(∀d∈l,1≤Rows.uptoBulk d)→l.length≤Rows.uptoBulkAll l
 |[],_=>Nat.zero_le _
 |x::r,h=>by
  rw[Rows.uptoBulkAll,List.length_cons];have e:=h x (by simp);have f:=Bk.len (l:=r) fun d a=>h d (by simp[a])
  omega
theorem Tryz.cellsE:prog.cellsOf 108=4:=by kernel_rfl
theorem Tryz.cells9:prog.cellsOf 9=1:=by kernel_rfl
theorem Tryz.cells4:prog.cellsOf 4=1:=by kernel_rfl
theorem Tryz.cells3:prog.cellsOf 3=1:=by kernel_rfl
def lh {H:Type} (e:En):DataW H:= .agg [.lit (.string e.path.data.toList),.lit (.bool e.folder),.lit (.string e.text.data.toList),.lit (.int .i64 e.ver)]
theorem mS {H:Type} (e:En):Rows.uptoBulk (lh (H:=H) e)=e.path.size+e.text.size+5:=by
 rw[lh,Rows.uptoBulk,Rows.uptoBulkAll,Rows.uptoBulkAll,Rows.uptoBulkAll,Rows.uptoBulkAll,Rows.uptoBulkAll,Rows.uptoBulk,Rows.uptoBulk,Rows.uptoBulk,Rows.uptoBulk,Lib.size_eq,Lib.size_eq]
 · omega
 · intro b h;cases h
 · intro b h;cases h
theorem pR {e:Type} {l:List e} (h:l.length=4): ∃a b c d,l=[a,b,c,d]:=by
 rcases l with _|⟨a,_|⟨b,_|⟨c,_|⟨d,_|⟨f,r⟩⟩⟩⟩⟩
 all_goals first|exact⟨a,b,c,d,rfl⟩|(simp at h)
theorem kh {W:World} {a:Addr} {v:Value} (k:W.cell? a=some v):a.spot=none:=by
 unfold World.cell? at k;cases d:a.spot with
 |none=>rfl
 |some z=>rw[d]at k;simp at k;split at k<;>cases k
theorem uI {H:Type} {enc:TypeId×Value→H} {W:World} {n i:Nat} {a:Addr} {x:DataW H} {pl:List MemPlace} {j:List Value} (ha:a.spot=none)
    (O:W.cells? 0 (a.add (i*prog.cellsOf 108)) (prog.cellsOf 108)=some j) (h2:DataW.trod enc prog W 0 (fun _=>true) true n 108 j=some (x,pl)):
    ∃e:En,x=lh e∧a.spot=none∧cM W a.block (a.off+i*4) e:=by
 rw[Tryz.cellsE]at O;obtain⟨_,o,y⟩:=World.cells?_some O
 obtain⟨y0,y1,y2,y3,z,u,_,cI,t1,t2,t3⟩:=Go.Joins.trod_struct4 underlying108 h2
 obtain⟨J,K,M,N,rfl⟩:=pR o
 have E:DataW.trod enc prog W 0 (fun _=>true) true z 9 [J]=some y0:=by simpa[Tryz.cells9]using cI
 have F:DataW.trod enc prog W 0 (fun _=>true) true z 4 [K]=some y1:=by simpa[Tryz.cells4]using t1
 have G:DataW.trod enc prog W 0 (fun _=>true) true z 9 [M]=some y2:=by simpa[Tryz.cells9]using t2
 have I:DataW.trod enc prog W 0 (fun _=>true) true z 3 [N]=some y3:=by simpa[Tryz.cells3]using t3
 obtain⟨U,aP,g0,_⟩:=DataW.trod_string underlying9 E
 obtain⟨V,ay,g1⟩:=DataW.trod_bool underlying4 F
 obtain⟨X,Z,g2,_⟩:=DataW.trod_string underlying9 G
 obtain⟨Y,e3,g3,_⟩:=DataW.trod_int underlying3 I
 obtain rfl:J= .string U:=by simpa using aP
 obtain rfl:K= .bool V:=by simpa using ay
 obtain rfl:M= .string X:=by simpa using Z
 obtain rfl:N= .int .i64 Y:=by simpa using e3
 subst g0;subst g1;subst g2;subst g3;simp only[Prod.mk.injEq]at u;have P:=y 0 (by omega);have Q:=y 1 (by omega);have S:=y 2 (by omega);have T:=y 3 (by omega);obtain⟨ab,ao,A⟩:=a
 obtain rfl:A=none:=ha;refine⟨⟨U,V,X,Y⟩,u.1,rfl,?_,?_,?_,?_⟩
 · by_cases d:i=0
   · subst d;simpa[Addr.add]using P
   · have f:i*4≠0:=by omega
     simpa[Addr.add,f]using P
 · by_cases d:i=0
   · subst d;simpa[Addr.add]using Q
   · have f:i*4≠0:=by omega
     simpa[Addr.add,f,Nat.add_assoc]using Q
 · by_cases d:i=0
   · subst d;simpa[Addr.add]using S
   · have f:i*4≠0:=by omega
     simpa[Addr.add,f,Nat.add_assoc]using S
 · by_cases d:i=0
   · subst d;simpa[Addr.add]using T
   · have f:i*4≠0:=by omega
     simpa[Addr.add,f,Nat.add_assoc]using T
theorem mT {B:Nat} (hB:B≤1000000000) {H:Type} {enc:TypeId×Value→H} {W:World} {v:Value} {d:DataW H} {p:List MemPlace} {fuel:Nat} (X:DataW.trod enc prog W 0 (fun _=>true) true fuel 47 [v]=some (d,p)) (Y:Rows.uptoBulk d≤B):
    ∃L:List En,aj W v L∧L.length≤B∧ ∀e∈L,e.path.size≤B∧e.text.size≤B:=by
 haveI:Inhabited En:=⟨⟨⟨#[]⟩,false,⟨#[]⟩,0⟩⟩
 rcases Go.Deep.open_slice underlying47 X with⟨o,Q⟩|⟨a,len,u,m,n,D,Pl,o,hb,Z,hm,G,Q,A⟩
 · obtain rfl:v= .slice none 0 0:=by simpa using o
   exact⟨[],⟨none,0,rfl,Nat.le_refl _,by simp,fun i f=>absurd f (by simp)⟩,by simp,fun e K=>by cases K⟩
 obtain rfl:v= .slice (some a) len u:=by simpa using o
 have O:m=u:=G.trans (if_pos rfl);clear G;have z:=(Prod.mk.inj Q).1;clear Q;subst O
 have P:0<len→a.spot=none:=fun h=>by
  obtain⟨I,j,_⟩:=A 0 (by omega)
  rw[Tryz.cellsE]at j;obtain⟨_,F,V⟩:=World.cells?_some j
  obtain⟨T,c1,c2,c3,rfl⟩:=pR F
  have k0:=V 0 (by omega);exact kh (v:=T) (by simpa[Addr.add]using k0)
 have y: ∀i,i<len→ ∃e:En,D i=lh e∧a.spot=none∧cM W a.block (a.off+i*4) e:=fun i f=>by
  obtain⟨I,j,J⟩:=A i (by omega)
  exact uI (P (by omega)) j J
 obtain⟨E,ae⟩:=Go.Deep.choose_lt y
 have U:Rows.uptoBulkAll ((List.range len).map D)≤B:=by
  rw[z,Rows.uptoBulk]at Y;omega
 refine⟨(List.range len).map E,⟨some a,_,by simp;rfl,by simpa using Z,?_,fun i f=>?_⟩,?_,fun e K=>?_⟩
 · have:=Bk.len (l:=(List.range len).map D) (fun d z=>by
    obtain⟨i,f,rfl⟩:=List.mem_map.1 z
    rw[(ae i (List.mem_range.1 f)).1,mS];omega)
   simp at this⊢
   omega
 · have M:i<len:=by simpa using f
   obtain⟨j,J,S⟩:=ae i M
   have N:a.block<W.heap.size:=by
    have k:=S.1;rcases Nat.lt_or_ge a.block W.heap.size with h|h
    · exact h
    · unfold World.cell? at k;rw[Array.getElem?_eq_none h]at k;cases k
   refine⟨a.block,a.off,?_,N,by simpa using S⟩
   rw[←J]
 · have:=Bk.len (l:=(List.range len).map D) (fun d z=>by
    obtain⟨i,f,rfl⟩:=List.mem_map.1 z
    rw[(ae i (List.mem_range.1 f)).1,mS];omega)
   simp at this⊢
   omega
 · obtain⟨i,f,rfl⟩:=List.mem_map.1 K
   have j:=Bk.mem (List.mem_map.2 ⟨i,f,rfl⟩:D i∈(List.range len).map D);rw[(ae i (List.mem_range.1 f)).1,mS]at j;omega
theorem Tryz.cellsC:prog.cellsOf 55=5:=by kernel_rfl
theorem pS {f:Type} {l:List f} (h:l.length=5): ∃a b c d e,l=[a,b,c,d,e]:=by
 rcases l with _|⟨a,_|⟨b,_|⟨c,_|⟨d,_|⟨e,_|⟨j,r⟩⟩⟩⟩⟩⟩
 all_goals first|exact⟨a,b,c,d,e,rfl⟩|(simp at h)
theorem uJ {H:Type} {enc:TypeId×Value→H} {P:Program} {w:World} {base:Nat} {a:Nat→Bool} {d:Bool} {t:TypeId} {e f j o u:Field} {fuel:Nat} {cs:List Value} {x:DataW H×List MemPlace} (K:P.underlying t=some (.struct #[e,f,j,o,u])) (h:DataW.trod enc P w base a d fuel t cs=some x):
    ∃A E F G I n,x=(.agg [A.1,E.1,F.1,G.1,I.1],A.2++(E.2++(F.2++(G.2++I.2))))∧cs.length=P.cellsOf t∧DataW.trod enc P w base a d n e.type ((cs.drop e.offset).take (P.cellsOf e.type))=some A∧
     DataW.trod enc P w base a d n f.type ((cs.drop f.offset).take (P.cellsOf f.type))=some E∧DataW.trod enc P w base a d n j.type ((cs.drop j.offset).take (P.cellsOf j.type))=some F∧
     DataW.trod enc P w base a d n o.type ((cs.drop o.offset).take (P.cellsOf o.type))=some G∧DataW.trod enc P w base a d n u.type ((cs.drop u.offset).take (P.cellsOf u.type))=some I:=by
 obtain⟨xs,n,_,rfl,J,z,y⟩:=DataW.trod_struct K h
 match xs,z with
 |[A,E,F,G,I],_=>exact⟨A,E,F,G,I,n,by simp,J,by simpa using y 0 e rfl,by simpa using y 1 f rfl,by simpa using y 2 j rfl,by simpa using y 3 o rfl,by simpa using y 4 u rfl⟩
end Go.Proofs.YtgamnckfmmbjdaaGreatDoor
