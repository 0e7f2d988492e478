/- What path.checkAll and checked answer, for every text. -/
import Derived.Test.YtgamnckfmmbjdaaGreatDoorWGA
set_option linter.unusedSimpArgs false
set_option linter.unusedVariables false
namespace Go.Proofs.YtgamnckfmmbjdaaGreatDoor
open Go.RowKit Go.Proofs.Tryz
set_option maxHeartbeats 1000000
theorem mE (aG:List ByteArray) (b cap:Nat) (w:World) (hb:b<w.heap.size) (K:aG.length≤1000) (G: ∀i (h:i<aG.length),(aG[i]).size≤1000000000000000)
    (F: ∀i (h:i<aG.length),w.cell? ⟨b,i,none⟩=some (.string aG[i])):
    Calls prog 186 #[.slice (some ⟨b,0,none⟩) aG.length cap] w fun e w'=>e= .returned (.int .i64 (bq (aG.map fun s=>s.data.toList)))∧Below w.heap.size w w':=by
 have E:Hid (∀i (h:i<aG.length),(aG[i]).size≤1000000000000000):=G;have H:Hid (∀i (h:i<aG.length),w.cell? ⟨b,i,none⟩=some (.string aG[i])):=F;clear G F;go_enter func186,ntmps186
 go_wp2_with fail;go_loopw [8] (fun i wr=> ∃k:Nat,k≤aG.length∧i= .int .i64 k∧bq (aG.map fun s=>s.data.toList)=bq ((aG.drop k).map fun s=>s.data.toList)∧Below w.heap.size w wr) (fun i _=>aG.length-(intOf i).toNat)
 case atStart=>exact⟨0,Nat.zero_le _,rfl,rfl,Below.refl _ _⟩
 case round=>
  obtain⟨k,J,rfl,j,a⟩:=hrel
  have u:Hid (bq (aG.map fun s=>s.data.toList)=bq ((aG.drop k).map fun s=>s.data.toList)):=j;clear j;by_cases d:k<aG.length
  · have y:wr.cell? ⟨b,k,none⟩=some (.string aG[k]):=(a.cell (p:=⟨b,k,none⟩) hb).trans (H.out k d)
    have A:Hid (aG.drop k=aG[k]::aG.drop (k+1)):=List.drop_eq_getElem_cons d;cases z:(al (aG[k]).data.toList==0)with
    |true=>
     have o:=hid (show al (aG[k]).data.toList=0 from by simpa using z);clear z;go_wp2_with fail;refine(d9 _ _ (E.out k d)).mono ?_
     rintro e I ⟨rfl,f⟩;rw[o.out];go_wp2_with fail;go_roundw
     case rel=>exact⟨k+1,by omega,by simp,by rw[u.out,A.out,List.map_cons,bq,if_pos o.out],a.trans (f.mono a.size)⟩
     case measure=>simp[intOf];omega
    |false=>
     have o:=hid (show¬al (aG[k]).data.toList=0 from by simpa using z);go_wp2_with fail;refine(d9 _ _ (E.out k d)).mono ?_
     rintro e I ⟨rfl,f⟩;go_wp2_with fail;go_ret;exact⟨an (by rw[u.out,A.out,List.map_cons,bq,if_neg o.out]),a.trans (f.mono a.size)⟩
  · go_wp2_with fail
    go_ret;exact⟨an (by rw[u.out,List.drop_of_length_le (by omega)];rfl),a⟩
theorem bj {a b c:World} (d:Below a.heap.size a b) (e:Below b.heap.size b c):Below a.heap.size a c:=d.trans (e.mono d.size)
theorem pv (s:ByteArray) (c:UInt8) (w:World) (a:s.size≤1000000000000000):
    Calls prog 262 #[.string s,.string ⟨#[c]⟩] w fun e w'=>e= .returned (.int .i64 (Lib.lastIndexByte s (c.toNat:Int)))∧w'=w:=
 Tryz.strings_LastIndex_one s ⟨#[c]⟩ rfl (by omega) w
theorem tV (s:ByteArray) (w:World) (y:s.size≤1000000000000000):
    Calls prog 217 #[.string s] w fun e w'=>e= .returned (.tuple #[.string ⟨(ax s.data.toList).toArray⟩,.string ⟨(Pp.lst s.data.toList).toArray⟩])∧Below w.heap.size w w':=by
 rcases tA s 47 with⟨e,d⟩|⟨a,b,e,d,f⟩
 · have j:Hid (Lib.lastIndexByte s ((47:UInt8).toNat:Int)= -1):=e
   have u:=hid (show s.extract 0 0=⟨(ax s.data.toList).toArray⟩from dZ (by rw[Lib.extract_data,mv d];simp));have o:=hid (show⟨(Pp.lst s.data.toList).toArray⟩=s from by rw[Pp.lst_none d]);clear e d;go_enter func217,ntmps217
   go_wp2_with fail;refine(pv s 47 _ y).mono ?_
   rintro e w' ⟨rfl,rfl⟩;rw[j.out];go_wp2_with fail;go_region
   go_wp2;go_ret2;exact⟨by rw[show(max (-1:Int) 0).toNat=0 from rfl,u.out,o.out];rfl,(Below.refl _ _).drew⟩
 · have j:Hid (Lib.lastIndexByte s ((47:UInt8).toNat:Int)=a.length):=e
   have z:s.size=a.length+b.length+1:=by rw[Lib.size_eq,f];simp;try omega
   have A:(a.length:Int)≤s.size:=by omega
   have E:(a.length:Int)+1≤s.size:=by omega
   have u:=hid (show s.extract 0 a.length=⟨(ax s.data.toList).toArray⟩from dZ (by rw[Lib.extract_data,f,eG a d];simp));have o:=hid (show s.extract (a.length+1) s.size=⟨(Pp.lst s.data.toList).toArray⟩from dZ (by rw[Lib.extract_data,f,tz a d,z];simp));clear e d f z;go_enter func217,ntmps217
   go_wp2_with fail;refine(pv s 47 _ y).mono ?_
   rintro e w' ⟨rfl,rfl⟩;rw[j.out];go_wp2_with fail;go_region
   go_wp2;go_ret2;exact⟨by rw[u.out,o.out];rfl,(Below.refl _ _).drew⟩
theorem pw (s:ByteArray) (d:TypeId) (w:World) (a:s.size≤1000000000000000):
    Calls prog 186 #[.slice (some ⟨w.heap.size,0,none⟩) 1 1] (w.alloc (.cells #[.string s] d)) fun e w'=>e= .returned (.int .i64 (al s.data.toList))∧Below w.heap.size w w':=by
 refine(mE [s] w.heap.size 1 _ (by simp) (by simp) (fun i h=>?_) (fun i h=>?_)).mono ?_
 · obtain rfl:i=0:=by simpa using h
   exact a
 · obtain rfl:i=0:=by simpa using h
   simp
 · rintro e w' ⟨rfl,hb⟩
   refine⟨an ?_,((Below.refl _ _).alloc (Nat.le_refl _) _).trans (hb.mono (by simp))⟩
   simp only[List.map,bq];split
   · rename_i h;exact h.symm
   · rfl
theorem gy (s:ByteArray) (w:World) (o:s.size≤1000000000000000):
    Calls prog 168 #[.string s] w fun e w'=>e= .returned (.tuple #[.string ⟨(jk (al s.data.toList) (ax s.data.toList)).toArray⟩,.int .i64 (al s.data.toList)])∧Below w.heap.size w w':=by
 by_cases d:al s.data.toList=0
 · have u:Hid (al s.data.toList=0):=d
   have f:Hid (jk 0 (ax s.data.toList)=ax s.data.toList):=eH rfl _;clear d;go_enter func168,ntmps168
   go_wp2_with fail;refine(pw s _ _ o).mono ?_
   rintro e z ⟨rfl,a⟩;rw[u.out];go_wp2_with fail;refine(tV s _ o).mono ?_
   rintro e A ⟨rfl,j⟩;go_wp2;go_ret2;exact⟨by rw[u.out,f.out];rfl,a.trans (j.mono a.size)⟩
 · have y:(al s.data.toList==0)=false:=by simpa using d
   have f:Hid (jk (al s.data.toList) (ax s.data.toList)=[]):=jQ d _;clear d;go_enter func168,ntmps168
   go_wp2_with fail;refine(pw s _ _ o).mono ?_
   rintro e z ⟨rfl,a⟩;go_wp2;go_ret2;exact⟨by rw[f.out];rfl,a⟩
theorem eI {w w':World} {base:Nat} {e:TypeId} {size:Nat} {v:Value} {n:Nat} {xs:List Value} (h:w.ownsRow base e size v n xs) (hb:Below w.heap.size w w'):w'.ownsRow base e size v n xs:=by
 obtain⟨o,d⟩:=h
 refine⟨o,?_⟩
 rcases d with d|⟨g,a,cur,y,u,f,r⟩
 · exact .inl d
 · refine .inr ⟨g,a,cur,y,u,?_,r⟩
   have j:g<w.heap.size:=by
    rcases Nat.lt_or_ge g w.heap.size with h|h
    · exact h
    · rw[Array.getElem?_eq_none h]at f;cases f
   rw[hb.block g j];exact f
theorem fL (s:ByteArray):s.toList.isEmpty=true↔s.data.toList=[]:=by rw[Lib.toList_data,List.isEmpty_iff]
theorem is {s:ByteArray} (h:s.toList.isEmpty=false): ¬s.data.toList=[]:=by
 intro e;rw[←fL,h]at e;cases e
theorem iN (n:Int) (w:World):
    Calls prog 167 #[.int .i64 n] w fun e w'=>e= .returned (.int .i64 (aM n))∧w'=w:=by
 by_cases a:n<1
 · have H:=hid (show 3=aM n from by rw[aM,if_pos (Or.inl a)])
   go_enter func167,ntmps167
   go_wp2;go_ret;exact⟨an H.out,rfl⟩
 by_cases d:1000000<n
 · have H:=hid (show 3=aM n from by rw[aM,if_pos (Or.inr d)])
   go_enter func167,ntmps167
   go_wp2;go_ret;exact⟨an H.out,rfl⟩
 · have H:=hid (show 0=aM n from by rw[aM,if_neg (by omega)])
   go_enter func167,ntmps167
   go_wp2;go_ret;exact⟨an H.out,rfl⟩
theorem px (p:ByteArray) (f:Bool) (t:ByteArray) (n:Int) (w:World) (o:p.size≤1000000000000000) (O:t.size≤1000000000000000):
    Calls prog 134 #[.agg #[.string p,.bool f,.string t,.int .i64 n]] w fun e w'=>e= .returned (.int .i64 (bi ⟨p,f,t,n⟩))∧Below w.heap.size w w':=by
 by_cases u:al p.data.toList=0
 · have y:Hid (al p.data.toList=0):=u
   have ae:bi ⟨p,f,t,n⟩=if f=true∧ ¬t.data.toList=[]then 1 else if 300<t.size then 2 else aM n:=by rw[bi,if_pos u]
   clear u;cases f with
   |true=>
    cases H:t.toList.isEmpty with
    |false=>
     have d:=hid (show 1=bi ⟨p,true,t,n⟩from by rw[ae,if_pos ⟨rfl,is H⟩]);clear ae;go_enter func134,ntmps134
     go_wp2_with fail;refine(d9 p _ o).mono ?_
     rintro e G ⟨rfl,a⟩;obtain⟨z,A,E,F,hb,j⟩:=cN a
     clear a;rw[y.out];go_wp2_with fail;go_ret;exact⟨an d.out,hb⟩
    |true=>
     have I:t.size=0:=by rw[Lib.size_eq,(fL t).1 H];rfl
     have d:=hid (show bi ⟨p,true,t,n⟩=aM n from by rw[ae,if_neg (fun h=>h.2 ((fL t).1 H)),if_neg (by omega)]);clear ae;have J:(t.size:Int)≤300:=by omega
     clear I;go_enter func134,ntmps134
     go_wp2_with fail;refine(d9 p _ o).mono ?_
     rintro e G ⟨rfl,a⟩;obtain⟨z,A,E,F,hb,j⟩:=cN a
     clear a;rw[y.out];go_wp2_with fail;refine(iN n _).mono ?_
     rintro e M ⟨rfl,rfl⟩;go_wp2_with fail;go_ret;exact⟨an d.out.symm,hb⟩
   |false=>
    by_cases N:300<(t.size:Int)
    · have d:=hid (show 2=bi ⟨p,false,t,n⟩from by rw[ae,if_neg (fun h=>by cases h.1),if_pos (by omega)])
      clear ae;go_enter func134,ntmps134
      go_wp2_with fail;refine(d9 p _ o).mono ?_
      rintro e G ⟨rfl,a⟩;obtain⟨z,A,E,F,hb,j⟩:=cN a
      clear a;rw[y.out];go_wp2_with fail;go_ret;exact⟨an d.out,hb⟩
    · have d:=hid (show bi ⟨p,false,t,n⟩=aM n from by rw[ae,if_neg (fun h=>by cases h.1),if_neg (by omega)])
      clear ae;go_enter func134,ntmps134
      go_wp2_with fail;refine(d9 p _ o).mono ?_
      rintro e G ⟨rfl,a⟩;obtain⟨z,A,E,F,hb,j⟩:=cN a
      clear a;rw[y.out];go_wp2_with fail;refine(iN n _).mono ?_
      rintro e M ⟨rfl,rfl⟩;go_wp2_with fail;go_ret;exact⟨an d.out.symm,hb⟩
 · have d:=hid (show al p.data.toList=bi ⟨p,f,t,n⟩from by rw[bi,if_neg u])
   have K:(al p.data.toList==0)=false:=by simpa using u
   go_enter func134,ntmps134
   go_wp2_with fail;refine(d9 p _ o).mono ?_
   rintro e G ⟨rfl,a⟩;obtain⟨z,A,E,F,hb,j⟩:=cN a
   clear a;go_wp2_with fail;go_ret;exact⟨an d.out,hb⟩
theorem py {L:List En} {d:En→Bool} {k:Nat} (a:k<L.length) (h: ∀j (h:j<L.length),j<k→d L[j]=false) (f:d L[k]=true):L.find? d=some L[k]:=by
 rw[List.find?_eq_some_iff_getElem];exact⟨f,k,a,rfl,fun j e=>by simpa using h j (by omega) e⟩
theorem tW {L:List En} {a:En→Bool} (h: ∀j (h:j<L.length),a L[j]=false):L.find? a=none:=by
 rw[List.find?_eq_none];intro x e;obtain⟨j,d,rfl⟩:=List.getElem_of_mem e
 simpa using h j d
def cj (w:World) (g:Nat) (cb:Array Value) (pr:En→Bool):Prop:=
 (∀args w,(callFunc g args).run prog w= .ok (.enter g args) w)∧
 ∀(W:World),Below w.heap.size w W→ ∀e:En,e.path.size≤1000000000000000→Calls prog g (#[.agg #[.string e.path,.bool e.folder,.string e.text,.int .i64 e.ver]]++cb) W fun r W'=>r= .returned (.bool (pr e))∧Below W.heap.size W W'
theorem cj.below {w w':World} {g:Nat} {a:Array Value} {e:En→Bool} (h:cj w g a e) (d:Below w.heap.size w w'):cj w' g a e:=
 ⟨h.1,fun W f=>h.2 W (d.trans (f.mono d.size))⟩
theorem tX (p:ByteArray) (f:Bool) (t:ByteArray) (n:Int) (q:ByteArray) (b:Nat) (w:World) (hb:b<w.heap.size) (a:w.cell? ⟨b,0,none⟩=some (.string q)):
    Calls prog 263 #[.agg #[.string p,.bool f,.string t,.int .i64 n],.pointer (some ⟨b,0,none⟩)] w fun e w'=>e= .returned (.bool (aE q.data.toList ⟨p,f,t,n⟩))∧Below w.heap.size w w':=by
 have d: ∀o,(w.alloc o).cell? ⟨b,0,none⟩=some (.string q):=fun o=>(((Below.refl w.heap.size w).alloc (Nat.le_refl _) o).cell (p:=⟨b,0,none⟩) hb).trans a
 go_enter func263,ntmps263
 go_wp2;go_ret;exact⟨aV (by rw[aE,Lib.toList_data,Lib.toList_data]),(Below.refl _ _).alloc (Nat.le_refl _) _⟩
theorem gS (q:ByteArray) (w:World):
    Calls prog 219 #[.string q] w fun e w'=>e= .returned (.func (.func 263) #[] #[.pointer (some ⟨w.heap.size,0,none⟩)])∧cj w' 263 #[.pointer (some ⟨w.heap.size,0,none⟩)] (aE q.data.toList)∧Below w.heap.size w w':=by
 go_enter func219,ntmps219
 go_wp2;go_ret;refine⟨rfl,⟨enters_of func263 (by kernel_rfl) rfl,fun W a e d=>?_⟩,(Below.refl _ _).alloc (Nat.le_refl _) _⟩
 exact tX e.path e.folder e.text e.ver q w.heap.size W (Nat.lt_of_lt_of_le (by simp) a.size) ((a.cell (p:=⟨w.heap.size,0,none⟩) (by simp)).trans (by simp))
def fM (r:Option En):Value:=match r with
 |some x=> .tuple #[.agg #[.string x.path,.bool x.folder,.string x.text,.int .i64 x.ver],.bool true]
 |none=> .tuple #[.agg #[.string ⟨#[]⟩,.bool false,.string ⟨#[]⟩,.int .i64 0],.bool false]
theorem gA (L:List En) (v:Value) (g:Nat) (N:Array Value) (A:En→Bool) (w:World) (hv:aj w v L) (P:cj w g N A) (hs: ∀e∈L,e.path.size≤1000000000000000):
    Calls prog 218 #[v,.func (.func g) #[] N] w fun e w'=>e= .returned (fM (L.find? A))∧Below w.heap.size w w':=by
 obtain⟨a,C5,rfl,C3,O,hL⟩:=hv
 have HL:Hid (∀i (h:i<L.length),∃b o,a=some ⟨b,o,none⟩∧b<w.heap.size∧cM w b (o+i*4) L[i]):=hL;have V:Hid (cj w g N A):=P;have HS:Hid (∀e∈L,e.path.size≤1000000000000000):=hs;have eg:=P.1;clear hL P hs;go_enter func218,ntmps218
 go_wp2_with fail;go_loopw [10] (fun i wr=> ∃k:Nat,k≤L.length∧i= .int .i64 k∧Hid (∀j (h:j<L.length),j<k→A L[j]=false)∧Below (w.alloc (.cells #[.string ⟨#[]⟩,.bool false,.string ⟨#[]⟩,.int .i64 0] 108)).heap.size (w.alloc (.cells #[.string ⟨#[]⟩,.bool false,.string ⟨#[]⟩,.int .i64 0] 108)) wr) (fun i _=>L.length-(intOf i).toNat)
 case atStart=>exact⟨0,Nat.zero_le _,rfl,(fun j _ h=>absurd h (Nat.not_lt_zero _): ∀j (h:j<L.length),j<0→A L[j]=false),Below.refl _ _⟩
 case round=>
  obtain⟨k,hk,rfl,M,d⟩:=hrel
  obtain⟨Q,S,T,U,z,E⟩:=cN d
  by_cases F:k<L.length
  · obtain⟨b,o,rfl,hb,he⟩:=HL.out k F
    obtain⟨X,Y,Z,c3⟩:=he.below hb z
    have I:=HS.out L[k] (List.getElem_mem F);cases J:A L[k]with
    |true=>
     have K:=hid (show L.find? A=some L[k]from py F M.out J);go_wp2_with fail;refine(V.out.2 _ (z.alloc (Nat.le_of_lt E) _) L[k] I).mono ?_
     rintro e w1 ⟨rfl,u⟩;obtain⟨d0,d1,d2,d3,y,H⟩:=cN u
     have f:=d.trans (y.mono d.size);obtain⟨s0,s1,s2,s3,G,C4⟩:=cN f
     have f0:=fs f 0;have f1:=fs f 1;have f2:=fs f 2;have f3:=fs f 3;rw[J];clear u X Y Z c3 Q S T U d f eg;go_wp2_with fail;refine bodyPost_ret (v:= .tuple #[.agg #[.string L[k].path,.bool L[k].folder,.string L[k].text,.int .i64 L[k].ver],.bool true]) (by simp[results,results218,go_sem,s0,s1,s2,s3]) rfl ⟨by rw[K.out];rfl,?_⟩
     exact(((G.setCell (Nat.le_refl _) _).setCell (Nat.le_refl _) _).setCell (Nat.le_refl _) _).setCell (Nat.le_refl _) _
    |false=>
     go_wp2_with fail;refine(V.out.2 _ (z.alloc (Nat.le_of_lt E) _) L[k] I).mono ?_
     rintro e w1 ⟨rfl,u⟩;obtain⟨d0,d1,d2,d3,y,H⟩:=cN u
     have f:=d.trans (y.mono d.size);rw[J];clear u X Y Z c3 Q S T U d eg;go_wp2_with fail;go_roundw
     case rel=>exact⟨k+1,by omega,by simp,(fun j h1 h2=>by
      by_cases e:j=k
      · subst e;exact J
      · exact M.out j h1 (by omega): ∀j (h:j<L.length),j<k+1→A L[j]=false),f⟩
     case measure=>simp[intOf];omega
  · have f0:=fs d 0
    have f1:=fs d 1;have f2:=fs d 2;have f3:=fs d 3;have K:=hid (show L.find? A=none from tW (fun j h=>M.out j h (by omega)));go_wp2_with fail;refine bodyPost_ret (v:= .tuple #[.agg #[.string ⟨#[]⟩,.bool false,.string ⟨#[]⟩,.int .i64 0],.bool false]) (by simp[results,results218,go_sem,Q,S,T,U]) rfl ⟨by rw[K.out];rfl,?_⟩
    exact(((z.setCell (Nat.le_refl _) _).setCell (Nat.le_refl _) _).setCell (Nat.le_refl _) _).setCell (Nat.le_refl _) _
theorem iO (L:List En) (v:Value) (q:ByteArray) (w:World) (I:aj w v L) (H: ∀e∈L,e.path.size≤1000000000000000):
    Calls prog 169 #[v,.string q] w fun e w'=>e= .returned (.int .i64 (aB L q.data.toList))∧Below w.heap.size w w':=by
 have F:Hid (aj w v L):=I;have E:Hid (∀e∈L,e.path.size≤1000000000000000):=H;clear I H;cases G:q.toList.isEmpty with
 |true=>
  have o:=hid (show 0=aB L q.data.toList from by rw[aB,if_pos ((fL q).1 G)]);go_enter func169,ntmps169
  go_wp2;go_ret;exact⟨an o.out,Below.refl _ _⟩
 |false=>
  have f:=is G;cases u:L.find? (aE q.data.toList)with
  |none=>
   have A:Hid (L.find? (aE q.data.toList)=none):=u;have o:=hid (show 5=aB L q.data.toList from by rw[aB,if_neg f,u]);clear u f;go_enter func169,ntmps169
   go_wp2_with fail;refine(gS q _).mono ?_
   rintro e z ⟨rfl,j,a⟩;have y:Hid (cj z 263 #[.pointer (some ⟨w.heap.size,0,none⟩)] (aE q.data.toList)):=j;clear j;go_wp2_with fail;refine(gA L v _ _ _ _ (F.out.below a) y.out E.out).mono ?_
   rintro e K ⟨rfl,d⟩;rw[A.out,fM];go_wp2_with fail;go_ret;exact⟨an o.out,(bj a d).alloc (Nat.le_trans a.size d.size) _⟩
  |some x=>
   have A:Hid (L.find? (aE q.data.toList)=some x):=u;have ae:aB L q.data.toList=if x.folder=true then 0 else 4:=by rw[aB,if_neg f,u]
   clear u f;cases J:x.folder with
   |true=>
    have o:=hid (show 0=aB L q.data.toList from by rw[ae,J];rfl);clear ae;go_enter func169,ntmps169
    go_wp2_with fail;refine(gS q _).mono ?_
    rintro e z ⟨rfl,j,a⟩;have y:Hid (cj z 263 #[.pointer (some ⟨w.heap.size,0,none⟩)] (aE q.data.toList)):=j;clear j;go_wp2_with fail;refine(gA L v _ _ _ _ (F.out.below a) y.out E.out).mono ?_
    rintro e K ⟨rfl,d⟩;rw[A.out,fM];go_wp2_with fail;go_ret;exact⟨an o.out,(bj a d).alloc (Nat.le_trans a.size d.size) _⟩
   |false=>
    have o:=hid (show 4=aB L q.data.toList from by rw[ae,J];rfl);clear ae;go_enter func169,ntmps169
    go_wp2_with fail;refine(gS q _).mono ?_
    rintro e z ⟨rfl,j,a⟩;have y:Hid (cj z 263 #[.pointer (some ⟨w.heap.size,0,none⟩)] (aE q.data.toList)):=j;clear j;go_wp2_with fail;refine(gA L v _ _ _ _ (F.out.below a) y.out E.out).mono ?_
    rintro e K ⟨rfl,d⟩;rw[A.out,fM];go_wp2_with fail;go_ret;exact⟨an o.out,(bj a d).alloc (Nat.le_trans a.size d.size) _⟩
def iP (L:List En) (k:Nat) (told:Int):Prop:=(L.take k).any (fun e=>aW L e==5)=false∧told=if(L.take k).any (fun e=>aW L e==4)=true then 4 else 0
theorem tY (L:List En):iP L 0 0:=⟨by simp,by simp⟩
theorem pz {L:List En} {k:Nat} {t:Int} (a:k<L.length) (h:iP L k t) (d:aW L L[k]≠5):iP L (k+1) (if aW L L[k]=4 then 4 else t):=by
 refine⟨?_,?_⟩
 · rw[List.take_succ_eq_append_getElem a,List.any_append,h.1];simpa using d
 · rw[List.take_succ_eq_append_getElem a,List.any_append,h.2]
   by_cases e:aW L L[k]=4
   · simp[e]
   · simp[e]
theorem pA {L:List En} {k:Nat} (a:k<L.length) (d:aW L L[k]=5):5=dC L L:=by
 rw[dC,if_pos];rw[List.any_eq_true];exact⟨L[k],List.getElem_mem a,by simpa using d⟩
theorem tZ {L:List En} {k:Nat} {t:Int} (e:L.length≤k) (h:iP L k t):t=dC L L:=by
 obtain⟨a,d⟩:=h
 rw[List.take_of_length_le e]at a d;rw[dC,if_neg (by rw[a];decide),d]
theorem t8 (L:List En) (v:Value) (w:World) (T:aj w v L) (hn:L.length≤60) (S: ∀e∈L,e.path.size≤1000000000000000) (O: ∀e∈L,al e.path.data.toList=0):
    Calls prog 136 #[v] w fun e w'=>e= .returned (.int .i64 (dC L L))∧Below w.heap.size w w':=by
 have Z:Hid (aj w v L):=T;have M:Hid (∀e∈L,e.path.size≤1000000000000000):=S;have X:Hid (∀e∈L,al e.path.data.toList=0):=O;obtain⟨a,C3,rfl,P,J,N⟩:=T
 have Y:Hid (∀i (h:i<L.length),∃b o,a=some ⟨b,o,none⟩∧b<w.heap.size∧cM w b (o+i*4) L[i]):=N;clear N S O;go_enter func136,ntmps136
 go_wp2_with fail;go_loopw [3,10] (fun t i wr=> ∃(k:Nat) (told:Int),k≤L.length∧i= .int .i64 k∧t= .int .i64 told∧Hid (iP L k told)∧Below w.heap.size w wr) (fun _ i _=>L.length-(intOf i).toNat)
 case atStart=>exact⟨0,0,Nat.zero_le _,rfl,rfl,tY L,Below.refl _ _⟩
 case round=>
  obtain⟨k,told,hk,rfl,rfl,I,u⟩:=hrel
  by_cases j:k<L.length
  · obtain⟨b,o,rfl,hb,he⟩:=Y.out k j
    obtain⟨c0,c1,c2,c3⟩:=he.below hb u
    have K:=M.out L[k] (List.getElem_mem j);have HZ:Hid (al (L[k]).path.data.toList=0):=X.out L[k] (List.getElem_mem j);have b1:=oZ (L[k]).path.data.toList;rw[←Lib.size_eq]at b1;go_wp2_with fail;refine(gy (L[k]).path _ K).mono ?_
    rintro e w1 ⟨rfl,E⟩;rw[HZ.out,eH rfl];obtain⟨d0,d1,d2,d3,z,Q⟩:=cN E
    have d:=bj u z;clear E c0 c1 c2 c3 d0 d1 d2 d3;go_wp2_with fail;refine(iO L _ ⟨(ax (L[k]).path.data.toList).toArray⟩ _ (Z.out.below d) M.out).mono ?_
    rintro e w2 ⟨rfl,F⟩;have f:=bj d F;clear d F z;rw[show aB L _=aW L L[k]from rfl];by_cases y:aW L L[k]=5
    · have G:Hid (aW L L[k]=5):=y
      clear y;rw[G.out];go_wp2_with fail;go_ret;exact⟨an (pA j G.out),f⟩
    · have G:Hid (aW L L[k]≠5):=y
      by_cases A:aW L L[k]=4
      · have V:Hid (aW L L[k]=4):=A
        have H:=hid (show iP L (k+1) 4 from by have:=pz j I.out y;rwa [if_pos A]at this);clear A y;rw[V.out];go_wp2_with fail;go_roundw
        case rel=>exact⟨k+1,4,by omega,by simp,rfl,H.out,f⟩
        case measure=>simp[intOf];omega
      · have H:=hid (show iP L (k+1) told from by have:=pz j I.out y;rwa [if_neg A]at this)
        have U:=hid (show aW L L[k]=0 from by rcases mA L (ax (L[k]).path.data.toList)with h|h|h;exact h;exact absurd h A;exact absurd h y);clear A y;rw[U.out];go_wp2_with fail;go_roundw
        case rel=>exact⟨k+1,told,by omega,by simp,rfl,H.out,f⟩
        case measure=>simp[intOf];omega
  · go_wp2_with fail
    go_ret;exact⟨an (tZ (by omega) I.out),u⟩
end Go.Proofs.YtgamnckfmmbjdaaGreatDoor
