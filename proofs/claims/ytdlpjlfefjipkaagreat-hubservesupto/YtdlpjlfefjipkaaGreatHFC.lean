/- What path.Parent and Name answer, for every text. -/
import Derived.Test.YtdlpjlfefjipkaaGreatHFA
set_option linter.unusedSimpArgs false
set_option linter.unusedVariables false
namespace Go.Proofs.YtdlpjlfefjipkaaGreat
open Go.RowKit Go.Proofs.Tryz
set_option maxHeartbeats 1000000
theorem rS (s:ByteArray) (d:TypeId) (w:World) (c:s.size≤1000000000000000):
    Calls prog 122 #[.slice (some ⟨w.heap.size,0,none⟩) 1 1] (w.alloc (.cells #[s] d)) fun e w'=>e= .returned (.int .i64 (aD s.data.toList))∧Below w.heap.size w w':=by
 refine(oK [s] w.heap.size 1 _ (by simp) (by simp) (fun i h=>?_) (fun i h=>?_)).mono ?_
 · obtain rfl:i=0:=by simpa using h
   exact c
 · obtain rfl:i=0:=by simpa using h
   simp
 · rintro e w' ⟨rfl,a⟩
   refine⟨aB ?_, ak.trans (a.mono (by simp))⟩
   simp only[List.map,bZ];split
   · rename_i h;exact h.symm
   · rfl
theorem iH (s:ByteArray) (w:World) (g:s.size≤1000000000000000):
    Calls prog 167 #[s] w fun e w'=>e= .returned (.tuple #[.string ⟨(kQ (aD s.data.toList) (aI s.data.toList)).toArray⟩,aD s.data.toList])∧Below w.heap.size w w':=by
 by_cases c:aD s.data.toList=0
 · have i:Hid (aD s.data.toList=0):=c
   have d:Hid (kQ 0 (aI s.data.toList)=aI s.data.toList):=fF rfl _;clear c;go_enter func167,ntmps167
   go_wp2_with fail;refine(rS s _ _ g).mono ?_
   rintro e o ⟨rfl,a⟩;rw[i.out];go_wp2_with fail;refine(xy s _ g).mono ?_
   rintro e u ⟨rfl,f⟩;go_wp2;go_ret2;exact⟨by rw[i.out,d.out];rfl,a.trans (f.mono a.size)⟩
 · have j:(aD s.data.toList==0)=false:=by simpa using c
   have d:Hid (kQ (aD s.data.toList) (aI s.data.toList)=[]):=lH c _;clear c;go_enter func167,ntmps167
   go_wp2_with fail;refine(rS s _ _ g).mono ?_
   rintro e o ⟨rfl,a⟩;go_wp2;go_ret2;exact⟨by rw[d.out];rfl,a⟩
theorem gh {w w':World} {base:Nat} {e:TypeId} {size:Nat} {v:Value} {n:Nat} {i:List Value} (h:w.ownsRow base e size v n i) (o:Below w.heap.size w w'):w'.ownsRow base e size v n i:=by
 obtain⟨j,c⟩:=h
 refine⟨j,?_⟩
 rcases c with c|⟨g,a,cur,u,s,d,r⟩
 · exact .inl c
 · refine .inr ⟨g,a,cur,u,s,?_,r⟩
   have f:g<w.heap.size:=by
    rcases Nat.lt_or_ge g w.heap.size with h|h
    · exact h
    · rw[Array.getElem?_eq_none h]at d;cases d
   rw[o.block g f];exact d
theorem ia (s:ByteArray):s.toList.isEmpty=true↔s.data.toList=[]:=by rw[Lib.toList_data,List.isEmpty_iff]
theorem jH {s:ByteArray} (h:s.toList.isEmpty=false): ¬s.data.toList=[]:=by
 intro e;rw[←ia,h]at e;cases e
theorem j9 (n:Int) (w:World):
    Calls prog 166 #[n] w fun e w'=>e= .returned (.int .i64 (bm n))∧w'=w:=by
 by_cases a:n<1
 · have H:=hid (show 3=bm n from by rw[bm,if_pos (Or.inl a)])
   go_enter func166,ntmps166
   go_wp2;go_ret;exact⟨aB H.out,rfl⟩
 by_cases c:1000000<n
 · have H:=hid (show 3=bm n from by rw[bm,if_pos (Or.inr c)])
   go_enter func166,ntmps166
   go_wp2;go_ret;exact⟨aB H.out,rfl⟩
 · have H:=hid (show 0=bm n from by rw[bm,if_neg (by omega)])
   go_enter func166,ntmps166
   go_wp2;go_ret;exact⟨aB H.out,rfl⟩
def ag (e:En):Value:= .agg #[.string e.path,.bool e.folder,.string e.text,.int .i64 e.ver]
theorem rT (p:ByteArray) (f:Bool) (t:ByteArray) (n:Int) (w:World) (i:p.size≤1000000000000000) (H:t.size≤1000000000000000):
    Calls prog 149 #[.agg #[p,f,t,n]] w fun e w'=>e= .returned (.int .i64 (bT ⟨p,f,t,n⟩))∧Below w.heap.size w w':=by
 by_cases j:aD p.data.toList=0
 · have o:Hid (aD p.data.toList=0):=j
   have hE:bT ⟨p,f,t,n⟩=if f=true∧ ¬t.data.toList=[]then 1 else if 300<t.size then 2 else bm n:=by rw[bT,if_pos j]
   clear j;cases f with
   |true=>
    cases A:t.toList.isEmpty with
    |false=>
     have c:=hid (show 1=bT ⟨p,true,t,n⟩from by rw[hE,if_pos ⟨rfl,jH A⟩]);clear hE;go_enter func149,ntmps149
     go_wp2_with fail;refine(eV p _ i).mono ?_
     rintro e z ⟨rfl,a⟩;obtain⟨s,u,v,x,d,g⟩:=dK a
     clear a;rw[o.out];go_wp2;go_ret;exact⟨aB c.out,d⟩
    |true=>
     have B:t.size=0:=by rw[Lib.size_eq,(ia t).1 A];rfl
     have c:=hid (show bT ⟨p,true,t,n⟩=bm n from by rw[hE,if_neg (fun h=>h.2 ((ia t).1 A)),if_neg (by omega)]);clear hE;have C:(t.size:Int)≤300:=by omega
     clear B;go_enter func149,ntmps149
     go_wp2_with fail;refine(eV p _ i).mono ?_
     rintro e z ⟨rfl,a⟩;obtain⟨s,u,v,x,d,g⟩:=dK a
     clear a;rw[o.out];go_wp2_with fail;refine(j9 n _).mono ?_
     rintro e F ⟨rfl,rfl⟩;go_wp2;go_ret;exact⟨aB c.out.symm,d⟩
   |false=>
    by_cases G:300<(t.size:Int)
    · have c:=hid (show 2=bT ⟨p,false,t,n⟩from by rw[hE,if_neg (fun h=>by cases h.1),if_pos (by omega)])
      clear hE;go_enter func149,ntmps149
      go_wp2_with fail;refine(eV p _ i).mono ?_
      rintro e z ⟨rfl,a⟩;obtain⟨s,u,v,x,d,g⟩:=dK a
      clear a;rw[o.out];go_wp2;go_ret;exact⟨aB c.out,d⟩
    · have c:=hid (show bT ⟨p,false,t,n⟩=bm n from by rw[hE,if_neg (fun h=>by cases h.1),if_neg (by omega)])
      clear hE;go_enter func149,ntmps149
      go_wp2_with fail;refine(eV p _ i).mono ?_
      rintro e z ⟨rfl,a⟩;obtain⟨s,u,v,x,d,g⟩:=dK a
      clear a;rw[o.out];go_wp2_with fail;refine(j9 n _).mono ?_
      rintro e F ⟨rfl,rfl⟩;go_wp2;go_ret;exact⟨aB c.out.symm,d⟩
 · have c:=hid (show aD p.data.toList=bT ⟨p,f,t,n⟩from by rw[bT,if_neg j])
   have E:(aD p.data.toList==0)=false:=by simpa using j
   go_enter func149,ntmps149
   go_wp2_with fail;refine(eV p _ i).mono ?_
   rintro e z ⟨rfl,a⟩;obtain⟨s,u,v,x,d,g⟩:=dK a
   clear a;go_wp2;go_ret;exact⟨aB c.out,d⟩
theorem rU {L:List En} {c:En→Bool} {k:Nat} (a:k<L.length) (h: ∀j (h:j<L.length),j<k→c L[j]=false) (f:c L[k]=true):L.find? c=some L[k]:=by
 rw[List.find?_eq_some_iff_getElem];exact⟨f,k,a,rfl,fun j d=>by simpa using h j (by omega) d⟩
theorem xQ {L:List En} {a:En→Bool} (h: ∀j (h:j<L.length),a L[j]=false):L.find? a=none:=by
 rw[List.find?_eq_none];intro x d;obtain⟨j,c,rfl⟩:=List.getElem_of_mem d
 simpa using h j c
def dh (w:World) (g:Nat) (cb:Array Value) (pr:En→Bool):Prop:=
 (∀args w,(callFunc g args).run prog w= .ok (.enter g args) w)∧
 ∀(W:World),Below w.heap.size w W→ ∀e:En,e.path.size≤1000000000000000→Calls prog g (#[.agg #[.string e.path,.bool e.folder,.string e.text,.int .i64 e.ver]]++cb) W fun r W'=>r= .returned (.bool (pr e))∧Below W.heap.size W W'
theorem dh.below {w w':World} {g:Nat} {a:Array Value} {d:En→Bool} (h:dh w g a d) (c:Below w.heap.size w w'):dh w' g a d:=
 ⟨h.1,fun W f=>h.2 W (c.trans (f.mono c.size))⟩
theorem xR (p:ByteArray) (f:Bool) (t:ByteArray) (n:Int) (q:ByteArray) (b:Nat) (w:World) (a:b<w.heap.size) (c:w.cell? ⟨b,0,none⟩=some (.string q)):
    Calls prog 197 #[.agg #[p,f,t,n],.pointer (some ⟨b,0,none⟩)] w fun e w'=>e= .returned (.bool (aR q.data.toList ⟨p,f,t,n⟩))∧Below w.heap.size w w':=by
 have d: ∀o,(w.alloc o).cell? ⟨b,0,none⟩=some (.string q):=fun o=>(((Below.refl w.heap.size w).alloc ax o).cell (p:=⟨b,0,none⟩) a).trans c
 go_enter func197,ntmps197
 go_wp2;go_ret;exact⟨br (by rw[aR,Lib.toList_data,Lib.toList_data]),ak⟩
theorem jh (q:ByteArray) (w:World):
    Calls prog 179 #[q] w fun e w'=>e= .returned (.func (.func 197) #[] #[.pointer (some ⟨w.heap.size,0,none⟩)])∧dh w' 197 #[.pointer (some ⟨w.heap.size,0,none⟩)] (aR q.data.toList)∧Below w.heap.size w w':=by
 go_enter func179,ntmps179
 go_wp2;go_ret;refine⟨rfl,⟨enters_of func197 (by kernel_rfl) rfl,fun W a e c=>?_⟩,ak⟩
 exact xR e.path e.folder e.text e.ver q w.heap.size W (Nat.lt_of_lt_of_le (by simp) a.size) ((a.cell (p:=⟨w.heap.size,0,none⟩) (by simp)).trans (by simp))
def ic (r:Option En):Value:=match r with
 |some x=> .tuple #[.agg #[.string x.path,.bool x.folder,.string x.text,.int .i64 x.ver],.bool true]
 |none=> .tuple #[.agg #[.string ⟨#[]⟩,.bool false,.string ⟨#[]⟩,.int .i64 0],.bool false]
theorem iI (L:List En) (v:Value) (g:Nat) (I:Array Value) (x:En→Bool) (w:World) (hv:aF w v L) (K:dh w g I x) (hs: ∀e∈L,e.path.size≤1000000000000000):
    Calls prog 178 #[v,.func (.func g) #[] I] w fun e w'=>e= .returned (ic (L.find? x))∧Below w.heap.size w w':=by
 obtain⟨a,E0,rfl,Y,J,X⟩:=hv
 have HL:Hid (∀i (h:i<L.length),∃b o,a=some ⟨b,o,none⟩∧b<w.heap.size∧dJ w b (o+i*4) L[i]):=X;have Q:Hid (dh w g I x):=K;have HS:Hid (∀e∈L,e.path.size≤1000000000000000):=hs;have V:=K.1;clear X K hs;go_enter func178,ntmps178
 go_wp2;go_loopw [10] (fun i wr=> ∃k:Nat,k≤L.length∧i= .int .i64 k∧Hid (∀j (h:j<L.length),j<k→x L[j]=false)∧Below (w.alloc (.cells #[.string ⟨#[]⟩,false,.string ⟨#[]⟩,ah] 145)).heap.size (w.alloc (.cells #[.string ⟨#[]⟩,false,.string ⟨#[]⟩,ah] 145)) wr) (fun i _=>L.length-(intOf i).toNat)
 case atStart=>exact⟨0,Nat.zero_le _,rfl,(fun j _ h=>absurd h (Nat.not_lt_zero _): ∀j (h:j<L.length),j<0→x L[j]=false),aw⟩
 case round=>
  obtain⟨k,hk,rfl,H,c⟩:=hrel
  obtain⟨M,N,O,P,u,z⟩:=dK c
  by_cases A:k<L.length
  · obtain⟨b,o,rfl,hb,he⟩:=HL.out k A
    obtain⟨R,S,T,U⟩:=he.below hb u
    have E:=HS.out L[k] (List.getElem_mem A);cases F:x L[k]with
    |true=>
     have G:=hid (show L.find? x=some L[k]from rU A H.out F);go_wp2_with fail;refine(Q.out.2 _ (u.alloc (Nat.le_of_lt z) _) L[k] E).mono ?_
     rintro e w1 ⟨rfl,f⟩;obtain⟨d0,d1,d2,d3,s,C⟩:=dK f
     have d:=c.trans (s.mono c.size);obtain⟨s0,s1,s2,s3,B,Z⟩:=dK d
     have f0:=gF d 0;have f1:=gF d 1;have f2:=gF d 2;have f3:=gF d 3;rw[F];clear f R S T U M N O P c d V;go_wp2;refine bodyPost_ret (v:= .tuple #[.agg #[.string L[k].path,.bool L[k].folder,.string L[k].text,.int .i64 L[k].ver],true]) (by simp[results,results178,go_sem,s0,s1,s2,s3]) rfl ⟨by rw[G.out];rfl,?_⟩
     exact(((B.setCell ax _).setCell ax _).setCell ax _).setCell ax _
    |false=>
     go_wp2_with fail;refine(Q.out.2 _ (u.alloc (Nat.le_of_lt z) _) L[k] E).mono ?_
     rintro e w1 ⟨rfl,f⟩;obtain⟨d0,d1,d2,d3,s,C⟩:=dK f
     have d:=c.trans (s.mono c.size);rw[F];clear f R S T U M N O P c V;go_wp2;go_roundw
     case rel=>exact⟨k+1,by omega,by simp,(fun j h1 h2=>by
      by_cases e:j=k
      · subst e;exact F
      · exact H.out j h1 (by omega): ∀j (h:j<L.length),j<k+1→x L[j]=false),d⟩
     case measure=>simp[intOf];omega
  · have f0:=gF c 0
    have f1:=gF c 1;have f2:=gF c 2;have f3:=gF c 3;have G:=hid (show L.find? x=none from xQ (fun j h=>H.out j h (by omega)));go_wp2;refine bodyPost_ret (v:= .tuple #[.agg #[.string ⟨#[]⟩,false,.string ⟨#[]⟩,ah],false]) (by simp[results,results178,go_sem,M,N,O,P]) rfl ⟨by rw[G.out];rfl,?_⟩
    exact(((u.setCell ax _).setCell ax _).setCell ax _).setCell ax _
theorem kb (L:List En) (v:Value) (q:ByteArray) (w:World) (C:aF w v L) (B: ∀e∈L,e.path.size≤1000000000000000):
    Calls prog 168 #[v,q] w fun e w'=>e= .returned (.int .i64 (aO L q.data.toList))∧Below w.heap.size w w':=by
 have z:Hid (aF w v L):=C;have u:Hid (∀e∈L,e.path.size≤1000000000000000):=B;clear C B;cases A:q.toList.isEmpty with
 |true=>
  have g:=hid (show 0=aO L q.data.toList from by rw[aO,if_pos ((ia q).1 A)]);go_enter func168,ntmps168
  go_wp2;go_ret;exact⟨aB g.out,aw⟩
 |false=>
  have d:=jH A;cases i:L.find? (aR q.data.toList)with
  |none=>
   have s:Hid (L.find? (aR q.data.toList)=none):=i;have g:=hid (show 5=aO L q.data.toList from by rw[aO,if_neg d,i]);clear i d;go_enter func168,ntmps168
   go_wp2_with fail;refine(jh q _).mono ?_
   rintro e o ⟨rfl,f,a⟩;have j:Hid (dh o 197 #[.pointer (some ⟨w.heap.size,0,none⟩)] (aR q.data.toList)):=f;clear f;go_wp2_with fail;refine(iI L v _ _ _ _ (z.out.below a) j.out u.out).mono ?_
   rintro e F ⟨rfl,c⟩;rw[s.out,ic];go_wp2;go_ret;exact⟨aB g.out,(aG a c).alloc (Nat.le_trans a.size c.size) _⟩
  |some x=>
   have s:Hid (L.find? (aR q.data.toList)=some x):=i;have hE:aO L q.data.toList=if x.folder=true then 0 else 4:=by rw[aO,if_neg d,i]
   clear i d;cases E:x.folder with
   |true=>
    have g:=hid (show 0=aO L q.data.toList from by rw[hE,E];rfl);clear hE;go_enter func168,ntmps168
    go_wp2_with fail;refine(jh q _).mono ?_
    rintro e o ⟨rfl,f,a⟩;have j:Hid (dh o 197 #[.pointer (some ⟨w.heap.size,0,none⟩)] (aR q.data.toList)):=f;clear f;go_wp2_with fail;refine(iI L v _ _ _ _ (z.out.below a) j.out u.out).mono ?_
    rintro e F ⟨rfl,c⟩;rw[s.out,ic];go_wp2;go_ret;exact⟨aB g.out,(aG a c).alloc (Nat.le_trans a.size c.size) _⟩
   |false=>
    have g:=hid (show 4=aO L q.data.toList from by rw[hE,E];rfl);clear hE;go_enter func168,ntmps168
    go_wp2_with fail;refine(jh q _).mono ?_
    rintro e o ⟨rfl,f,a⟩;have j:Hid (dh o 197 #[.pointer (some ⟨w.heap.size,0,none⟩)] (aR q.data.toList)):=f;clear f;go_wp2_with fail;refine(iI L v _ _ _ _ (z.out.below a) j.out u.out).mono ?_
    rintro e F ⟨rfl,c⟩;rw[s.out,ic];go_wp2;go_ret;exact⟨aB g.out,(aG a c).alloc (Nat.le_trans a.size c.size) _⟩
def kd (L:List En) (k:Nat) (told:Int):Prop:=(L.take k).any (fun e=>bE L e==5)=false∧told=if(L.take k).any (fun e=>bE L e==4)=true then 4 else 0
theorem xS (L:List En):kd L 0 0:=⟨by simp,by simp⟩
theorem rV {L:List En} {k:Nat} {t:Int} (a:k<L.length) (h:kd L k t) (c:bE L L[k]≠5):kd L (k+1) (if bE L L[k]=4 then 4 else t):=by
 refine⟨?_,?_⟩
 · rw[List.take_succ_eq_append_getElem a,List.any_append,h.1];simpa using c
 · rw[List.take_succ_eq_append_getElem a,List.any_append,h.2]
   by_cases e:bE L L[k]=4
   · simp[e]
   · simp[e]
theorem rW {L:List En} {k:Nat} (a:k<L.length) (c:bE L L[k]=5):5=ex L L:=by
 rw[ex,if_pos];rw[List.any_eq_true];exact⟨L[k],List.getElem_mem a,by simpa using c⟩
theorem xT {L:List En} {k:Nat} {t:Int} (d:L.length≤k) (h:kd L k t):t=ex L L:=by
 obtain⟨a,c⟩:=h
 rw[List.take_of_length_le d]at a c;rw[ex,if_neg (by rw[a];decide),c]
theorem xU (L:List En) (v:Value) (w:World) (N:aF w v L) (hn:L.length≤60) (M: ∀e∈L,e.path.size≤1000000000000000) (I: ∀e∈L,aD e.path.data.toList=0):
    Calls prog 151 #[v] w fun e w'=>e= .returned (.int .i64 (ex L L))∧Below w.heap.size w w':=by
 have S:Hid (aF w v L):=N;have G:Hid (∀e∈L,e.path.size≤1000000000000000):=M;have Q:Hid (∀e∈L,aD e.path.data.toList=0):=I;obtain⟨a,Z,rfl,J,E,H⟩:=N
 have R:Hid (∀i (h:i<L.length),∃b o,a=some ⟨b,o,none⟩∧b<w.heap.size∧dJ w b (o+i*4) L[i]):=H;clear H M I;go_enter func151,ntmps151
 go_wp2;go_loopw [3,10] (fun t i wr=> ∃(k:Nat) (told:Int),k≤L.length∧i= .int .i64 k∧t= .int .i64 told∧Hid (kd L k told)∧Below w.heap.size w wr) (fun _ i _=>L.length-(intOf i).toNat)
 case atStart=>exact⟨0,0,Nat.zero_le _,rfl,rfl,xS L,aw⟩
 case round=>
  obtain⟨k,told,hk,rfl,rfl,C,g⟩:=hrel
  by_cases f:k<L.length
  · obtain⟨b,o,rfl,hb,he⟩:=R.out k f
    obtain⟨U,V,X,Y⟩:=he.below hb g
    have F:=G.out L[k] (List.getElem_mem f);have T:Hid (aD (L[k]).path.data.toList=0):=Q.out L[k] (List.getElem_mem f);have b1:=ru (L[k]).path.data.toList;rw[←Lib.size_eq]at b1;go_wp2_with fail;refine(iH (L[k]).path _ F).mono ?_
    rintro e w1 ⟨rfl,x⟩;rw[T.out,fF rfl];obtain⟨d0,d1,d2,d3,s,K⟩:=dK x
    have c:=aG g s;clear x U V X Y d0 d1 d2 d3;go_wp2_with fail;refine(kb L _ ⟨(aI (L[k]).path.data.toList).toArray⟩ _ (S.out.below c) G.out).mono ?_
    rintro e w2 ⟨rfl,z⟩;have d:=aG c z;clear c z s;rw[show aO L _=bE L L[k]from rfl];by_cases j:bE L L[k]=5
    · have A:Hid (bE L L[k]=5):=j
      clear j;rw[A.out];go_wp2;go_ret;exact⟨aB (rW f A.out),d⟩
    · have A:Hid (bE L L[k]≠5):=j
      by_cases u:bE L L[k]=4
      · have P:Hid (bE L L[k]=4):=u
        have B:=hid (show kd L (k+1) 4 from by have:=rV f C.out j;rwa [if_pos u]at this);clear u j;rw[P.out];go_wp2;go_roundw
        case rel=>exact⟨k+1,4,by omega,by simp,rfl,B.out,d⟩
        case measure=>simp[intOf];omega
      · have B:=hid (show kd L (k+1) told from by have:=rV f C.out j;rwa [if_neg u]at this)
        have O:=hid (show bE L L[k]=0 from by rcases oG L (aI (L[k]).path.data.toList)with h|h|h;exact h;exact absurd h u;exact absurd h j);clear u j;rw[O.out];go_wp2;go_roundw
        case rel=>exact⟨k+1,told,by omega,by simp,rfl,B.out,d⟩
        case measure=>simp[intOf];omega
  · go_wp2
    go_ret;exact⟨aB (xT (by omega) C.out),g⟩
theorem oQ: ∀(L:List En),dP L=true↔ ∀i (h:i+1<L.length),Pp.lt L[i] L[i+1]=true
 |[]=>by simp[dP]
 |[_]=>by simp[dP]
 |a::b::r=>by
  rw[dP,Bool.and_eq_true,oQ (b::r)];constructor
  · rintro ⟨d,f⟩ i c
    cases i with
    |zero=>exact d
    |succ i=>exact f i (by simpa using c)
  · intro h
    exact⟨h 0 (by simp),fun i c=>h (i+1) (by simpa using c)⟩
theorem rX {L:List En} {m:Nat} (h:m+1<L.length) (a:Pp.lt L[m] L[m+1]=false):false=dP L:=by
 cases e:dP L with
 |false=>rfl
 |true=>have:=(oQ L).1 e m h;rw[a]at this;cases this
theorem rY {L:List En} (h: ∀i (h:i+1<L.length),Pp.lt L[i] L[i+1]=true):true=dP L:=((oQ L).2 h).symm
theorem rZ (L:List En) (v:Value) (w:World) (R:aF w v L) (Y:L.length≤1000000000):
    Calls prog 150 #[v] w fun e w'=>e= .returned (.bool (dP L))∧Below w.heap.size w w':=by
 obtain⟨a,J,rfl,C,j,A⟩:=R
 have x:Hid (∀i (h:i<L.length),∃b o,a=some ⟨b,o,none⟩∧b<w.heap.size∧dJ w b (o+i*4) L[i]):=A;clear A;go_enter func150,ntmps150
 go_wp2;go_loopw [3] (fun i wr=> ∃m:Nat,m≤L.length∧i= .int .i64 ((m:Int)+1)∧Hid (∀i (h:i+1<L.length),i<m→Pp.lt L[i] L[i+1]=true)∧Below w.heap.size w wr) (fun i _=>L.length+2-(intOf i).toNat)
 case atStart=>exact⟨0,Nat.zero_le _,rfl,(fun i _ h=>absurd h (Nat.not_lt_zero _): ∀i (h:i+1<L.length),i<0→Pp.lt L[i] L[i+1]=true),aw⟩
 case round=>
  obtain⟨m,X,rfl,z,c⟩:=hrel
  by_cases f:m+1<L.length
  · obtain⟨b,o,rfl,B,Q⟩:=x.out m (by omega)
    obtain⟨T,G,H,I⟩:=Q.below B c
    obtain⟨F,S,d,P,s⟩:=x.out (m+1) f
    obtain⟨rfl,rfl⟩:b=F∧o=S:=by simpa using d
    obtain⟨U,K,M,N⟩:=s.below B c
    have E:(m:Int)+1<L.length:=by omega
    clear G H I K M N d;cases g:Pp.lt L[m] L[m+1]with
    |true=>
     have u:Op.bytesLess (L[m]).path.toList (L[m+1]).path.toList=true:=g;go_wp2_with fail;go_region
     go_wp2;go_roundw
     case rel=>exact⟨m+1,by omega,by simp,(fun i O V=>by
      by_cases e:i=m
      · subst e;exact g
      · exact z.out i O (by omega): ∀i (h:i+1<L.length),i<m+1→Pp.lt L[i] L[i+1]=true),c.drew⟩
     case measure=>simp[intOf];omega
    |false=>
     have u:Op.bytesLess (L[m]).path.toList (L[m+1]).path.toList=false:=g;go_wp2_with fail;go_region
     go_wp2;go_ret;exact⟨br (rX f g),c.drew⟩
  · go_wp2
    go_ret;exact⟨br (rY fun i h=>z.out i h (by omega)),c⟩
def dk (L:List En):Prop:= ∀e∈L,e.path.size≤1000000000000000∧e.text.size≤1000000000000000
theorem xV (L:List En) (v:Value) (w:World) (hv:aF w v L) (hn:L.length≤1000000000) (hs:dk L):
    Calls prog 119 #[v] w fun e w'=>e= .returned (.int .i64 (bg L))∧Below w.heap.size w w':=by
 have G:Hid (aF w v L):=hv;have S:Hid (dk L):=hs;obtain⟨a,E1,rfl,E0,P,hL⟩:=hv
 have HL:Hid (∀i (h:i<L.length),∃b o,a=some ⟨b,o,none⟩∧b<w.heap.size∧dJ w b (o+i*4) L[i]):=hL;clear hL hs;by_cases E2:60<(L.length:Int)
 · have u:=hid (show 2=bg L from by rw[bg,if_pos (by omega)])
   go_enter func119,ntmps119
   go_wp2;go_ret;exact⟨aB u.out,aw⟩
 have T:=hid (show bg L=if cI L=0 then(if dP L=true then ex L L else 4)else cI L from by rw[bg,if_neg (by omega)]);go_enter func119,ntmps119
 go_wp2;go_loopw [11] (fun i wr=> ∃k:Nat,k≤L.length∧i= .int .i64 k∧Hid (cI L=cI (L.drop k))∧Below w.heap.size w wr) (fun i _=>L.length-(intOf i).toNat)
 case atStart=>exact⟨0,Nat.zero_le _,rfl,(rfl:cI L=cI (L.drop 0)),aw⟩
 case round=>
  obtain⟨k,hk,rfl,E,d⟩:=hrel
  by_cases x:k<L.length
  · obtain⟨b,o,rfl,hb,B⟩:=HL.out k x
    obtain⟨U,V,X,Y⟩:=B.below hb d
    have R:Hid (L.drop k=L[k]::L.drop (k+1)):=List.drop_eq_getElem_cons x;have s:=S.out L[k] (List.getElem_mem x);by_cases A:bT L[k]=0
    · have H:Hid (bT L[k]=0):=A
      clear A;go_wp2_with fail;refine(rT (L[k]).path (L[k]).folder (L[k]).text (L[k]).ver _ s.1 s.2).mono ?_
      rintro e Q ⟨rfl,f⟩;rw[show bT _=0 from H.out];obtain⟨I,J,K,M,g,C⟩:=dK f
      have c:=aG d g;clear f U V X Y I J K M;go_wp2;go_roundw
      case rel=>exact⟨k+1,by omega,by simp,(by rw[E.out,R.out,cI,if_pos H.out]:cI L=cI (L.drop (k+1))),c⟩
      case measure=>simp[intOf];omega
    · have H:Hid (¬bT L[k]=0):=A
      have E3:(bT L[k]==0)=false:=by simpa using A
      have u:=hid (show bT L[k]=bg L from by
       have Z:cI L=bT L[k]:=by rw[E.out,R.out,cI,if_neg A]
       rw[T.out,if_neg (by rw[Z];exact A),Z])
      go_wp2_with fail;refine(rT (L[k]).path (L[k]).folder (L[k]).text (L[k]).ver _ s.1 s.2).mono ?_
      rintro e Q ⟨rfl,f⟩;rw[show bT _=bT L[k]from rfl];obtain⟨I,J,K,M,g,C⟩:=dK f
      have c:=aG d g;clear f U V X Y I J K M;go_wp2;go_ret;exact⟨aB u.out,c⟩
  · have N:cI L=0:=by rw[E.out,List.drop_of_length_le (by omega)];rfl
    have j:bg L=if dP L=true then ex L L else 4:=by rw[T.out,if_pos N]
    have HC:=hid (show∀e∈L,aD e.path.data.toList=0 from fun e B=>gY (rA N e B));clear N;cases z:dP L with
    |true=>
     have F:Hid (dP L=true):=z;have u:=hid (show ex L L=bg L from by rw[j,if_pos z]);clear z j;go_wp2_with fail;refine(rZ L _ _ (G.out.below d) hn).mono ?_
     rintro e Q ⟨rfl,f⟩;rw[F.out];have c:=aG d f;clear d f;go_wp2_with fail;refine(xU L _ _ (G.out.below c) (by omega) (fun e B=>(S.out e B).1) HC.out).mono ?_
     rintro e w2 ⟨rfl,O⟩;go_wp2;go_ret;exact⟨aB u.out,aG c O⟩
    |false=>
     have F:Hid (dP L=false):=z;have u:=hid (show 4=bg L from by rw[j,if_neg (by rw[z];decide)]);clear z j;go_wp2_with fail;refine(rZ L _ _ (G.out.below d) hn).mono ?_
     rintro e Q ⟨rfl,f⟩;rw[F.out];go_wp2;go_ret;exact⟨aB u.out,aG d f⟩
def Pp.cells (e:En):List Value:=[.string e.path,.bool e.folder,.string e.text,.int .i64 e.ver]
def cq (L:List En):List Value:=L.flatMap Pp.cells
theorem gG (L:List En) (e:En):cq L++Pp.cells e=cq (L++[e]):=by simp[cq]
theorem gH (e:En): ∀u∈Pp.cells e,u.oneCell'=true:=by
 intro u a;simp only[Pp.cells,List.mem_cons,List.not_mem_nil,or_false]at a;rcases a with rfl|rfl|rfl|rfl<;>rfl
theorem gi (w:World) (e:En) (T:TypeId): ∀j u,(Pp.cells e)[j]?=some u→(w.alloc (.cells #[e.path,e.folder,e.text,e.ver] T)).cell? ((⟨w.heap.size,0,none⟩:Addr).add j)=some u:=by
 intro j u a;match j,a with
 |0,a=>simp[Pp.cells]at a;subst a;simp[Addr.add]
 |1,a=>simp[Pp.cells]at a;subst a;simp[Addr.add]
 |2,a=>simp[Pp.cells]at a;subst a;simp[Addr.add]
 |3,a=>simp[Pp.cells]at a;subst a;simp[Addr.add]
 |j+4,a=>simp[Pp.cells]at a
theorem xW {L:List En} {k:Nat} (h:k<L.length) {a:En→Bool} (c:a L[k]=true):(L.take (k+1)).filter a=(L.take k).filter a++[L[k]]:=by
 rw[List.take_succ_eq_append_getElem h,List.filter_append];simp[c]
theorem xX {L:List En} {k:Nat} (h:k<L.length) {a:En→Bool} (c:a L[k]=false):(L.take (k+1)).filter a=(L.take k).filter a:=by
 rw[List.take_succ_eq_append_getElem h,List.filter_append];simp[c]
theorem Tryz.infoE:(prog.info? 145).map (fun i=>(i.zero,i.size,i.bytes))=some (some (.agg #[.string ⟨#[]⟩,false,.string ⟨#[]⟩,ah]),4,48):=by kernel_rfl
theorem r5: ∀(L:List En) (i:Nat) (h:i<L.length) (c:Nat),c<4→(cq L)[i*4+c]?=(Pp.cells L[i])[c]?
 |[],i,h,_,_=>absurd h (by simp)
 |a::r,0,_,c,hc=>by
  show(Pp.cells a++cq r)[0*4+c]?=_
  rw[List.getElem?_append_left (by simp[Pp.cells];omega)];simp
 |a::r,i+1,h,c,hc=>by
  show(Pp.cells a++cq r)[(i+1)*4+c]?=_
  rw[List.getElem?_append_right (by simp[Pp.cells];omega)];have e:(i+1)*4+c-(Pp.cells a).length=i*4+c:=by simp[Pp.cells];omega
  rw[e,r5 r i (by simpa using h) c hc];simp
theorem xY {w:World} {base:Nat} {T:TypeId} {v:Value} {L:List En} (h:w.ownsRow base T 4 v L.length (cq L)) (A:L.length≤1000000000000000):aF w v L:=by
 have x:=h;obtain⟨_,z⟩:=h
 rcases z with⟨rfl,u⟩|⟨g,a,cur,rfl,B,s,d,C,u,o⟩
 · have:L=[]:=List.length_eq_zero_iff.1 u
   subst this;exact⟨none,0,rfl,ax,by simp,fun i f=>absurd f (by simp)⟩
 · have j:g<w.heap.size:=by
    rcases Nat.lt_or_ge g w.heap.size with h|h
    · exact h
    · rw[Array.getElem?_eq_none h]at s;cases s
   refine⟨some ⟨g,0,none⟩,a,rfl,d,A,fun i f=>⟨g,0,rfl,j,?_⟩⟩
   have k: ∀c,c<4→w.cell? ⟨g,0+i*4+c,none⟩=(Pp.cells L[i])[c]?:=fun c d=>by
    rw[Nat.zero_add,x.cellAt (i*4+c) (by omega),r5 L i f c d]
   exact⟨k 0 (by decide),k 1 (by decide),k 2 (by decide),k 3 (by decide)⟩
theorem fG {W:World} {b:Nat} {o:Obj} (h:W.heap[b]?=some o):b<W.heap.size:=by
 rcases Nat.lt_or_ge b W.heap.size with a|a
 · exact a
 · rw[Array.getElem?_eq_none a]at h;cases h
end Go.Proofs.YtdlpjlfefjipkaaGreat
