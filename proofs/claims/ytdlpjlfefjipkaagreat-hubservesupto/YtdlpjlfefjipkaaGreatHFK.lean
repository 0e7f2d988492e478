/- What the reference's CheckTree answers, for every tree. -/
import Derived.Test.YtdlpjlfefjipkaaGreatHFJ
import Derived.Maps.AppendAt
set_option linter.unusedSimpArgs false
set_option linter.unusedVariables false
namespace Go.Proofs.YtdlpjlfefjipkaaGreat
open Go.RowKit Go.Proofs.Tryz
set_option maxHeartbeats 2000000
set_option maxRecDepth 100000
theorem zu (e:En):
    (¬aD e.path.data.toList=0∧bT e=aD e.path.data.toList)∨
    (aD e.path.data.toList=0∧e.folder=true∧e.text.toList.isEmpty=false∧bT e=1)∨
    (aD e.path.data.toList=0∧e.folder=false∧300<(e.text.size:Int)∧bT e=2)∨
    (aD e.path.data.toList=0∧e.folder=true∧e.text.toList.isEmpty=true∧(e.text.size:Int)≤300∧bT e=bm e.ver)∨
    (aD e.path.data.toList=0∧e.folder=false∧(e.text.size:Int)≤300∧bT e=bm e.ver):=by
 by_cases a:aD e.path.data.toList=0
 · refine Or.inr ?_
   have hE:bT e=if e.folder=true∧ ¬e.text.data.toList=[]then 1 else if 300<e.text.size then 2 else bm e.ver:=by rw[bT,if_pos a]
   cases d:e.folder with
   |true=>
    cases c:e.text.toList.isEmpty with
    |false=>exact Or.inl ⟨a,rfl,rfl,by rw[hE,if_pos ⟨d,jH c⟩]⟩
    |true=>
     have g:e.text.size=0:=by rw[Lib.size_eq,(ia e.text).1 c];rfl
     exact Or.inr (Or.inr (Or.inl ⟨a,rfl,rfl,by omega,by rw[hE,if_neg (fun h=>h.2 ((ia e.text).1 c)),if_neg (by omega)]⟩))
   |false=>
    by_cases f:300<e.text.size
    · exact Or.inr (Or.inl ⟨a,rfl,by omega,by rw[hE,d,if_neg (fun h=>by cases h.1),if_pos f]⟩)
    · exact Or.inr (Or.inr (Or.inr ⟨a,rfl,by omega,by rw[hE,d,if_neg (fun h=>by cases h.1),if_neg f]⟩))
 · exact Or.inl ⟨a,by rw[bT,if_neg a]⟩
theorem zv {L:List En} {k:Nat} (c:k<L.length) (h: ∀j (h:j<L.length),bE L L[j]≠5) (o:bE L L[k]≠0):4=ex L L:=by
 have d:bE L L[k]=4:=by
  rcases oG L (aI (L[k]).path.data.toList)with a|a|a
  · exact absurd a o
  · exact a
  · exact absurd a (h k c)
 have u: ¬L.any (fun e=>bE L e==5)=true:=by
  intro f;obtain⟨x,s,g⟩:=List.any_eq_true.1 f
  obtain⟨j,i,rfl⟩:=List.getElem_of_mem s
  exact h j i (by simpa using g)
 have v:L.any (fun e=>bE L e==4)=true:=List.any_eq_true.2 ⟨L[k],List.getElem_mem c,by simp[d]⟩;rw[ex,if_neg u,if_pos v]
theorem zw {L:List En} (h: ∀j (h:j<L.length),bE L L[j]=0):0=ex L L:=by
 have n: ∀c:Int,c≠0→ ¬L.any (fun e=>bE L e==c)=true:=by
  intro c f d;obtain⟨x,i,a⟩:=List.any_eq_true.1 d
  obtain⟨j,g,rfl⟩:=List.getElem_of_mem i
  rw[h j g]at a;exact f (by simpa using a:(0:Int)=c).symm
 rw[ex,if_neg (n 5 (by decide)),if_neg (n 4 (by decide))]
theorem Pp.lt_flip {x y:En} (h:Pp.lt x y=true):Pp.lt y x=false∧(y.path.toList==x.path.toList)=false:=by
 constructor
 · cases a:Pp.lt y x with
   |false=>rfl
   |true=>
    have:=fY _ _ _ h a
    rw[dU]at this;cases this
 · rw[beq_eq_false_iff_ne]
   intro e;have e2:Pp.lt x y=Pp.lt x x:=by rw[Pp.lt,Pp.lt,e]
   rw[e2,dU]at h;cases h
theorem zx {x y:En} (h:Pp.lt x y=false):Pp.lt y x=true∨(Pp.lt y x=false∧(y.path.toList==x.path.toList)=true):=by
 cases a:Pp.lt y x with
 |true=>exact Or.inl rfl
 |false=>
  refine Or.inr ⟨rfl,?_⟩
  rw[Lib.toList_data,Lib.toList_data,kS a h];simp
theorem pK {n:Int}:bm n=0↔1≤n∧n≤1000000:=by
 unfold bm;split<;>omega
theorem lh (n:Int) (w:World):
    Calls prog 84 #[n] w fun e w'=>e= .returned (.bool (bm n==0))∧w'=w:=by
 by_cases c:1≤n
 · by_cases d:n≤1000000
   · have a:=hid (show true=(bm n==0)from by rw[pK.2 ⟨c,d⟩];rfl)
     go_enter func84,ntmps84
     go_wp2;go_ret;exact⟨br a.out,rfl⟩
   · have a:=hid (show false=(bm n==0)from by symm;rw[beq_eq_false_iff_ne];exact fun h=>d (pK.1 h).2)
     go_enter func84,ntmps84
     go_wp2;go_ret;exact⟨br a.out,rfl⟩
 · have a:=hid (show false=(bm n==0)from by symm;rw[beq_eq_false_iff_ne];exact fun h=>c (pK.1 h).1)
   go_enter func84,ntmps84
   go_wp2;go_ret;exact⟨br a.out,rfl⟩
theorem np (L:List En) (v:Value) (w:World) (hv:aF w v L) (hs: ∀e∈L,e.path.size≤1000000000):
    Calls prog 83 #[v] w fun e w'=>e= .returned (.int .i64 (bg L))∧Below w.heap.size w w':=by
 have HV:Hid (aF w v L):=hv;have HS:Hid (∀e∈L,e.path.size≤1000000000):=hs;obtain⟨a,E7,rfl,E5,E1,hL⟩:=hv
 have P:Hid (∀i (h:i<L.length),∃b o,a=some ⟨b,o,none⟩∧b<w.heap.size∧dJ w b (o+i*4) L[i]):=hL;clear hL hs;by_cases EH:60<(L.length:Int)
 · have u:=hid (show 2=bg L from by rw[bg,if_pos (by omega)])
   go_enter func83,ntmps83
   go_wp2;go_ret;exact⟨aB u.out,aw⟩
 have HT:=hid (show bg L=if cI L=0 then(if dP L=true then ex L L else 4)else cI L from by rw[bg,if_neg (by omega)]);go_enter func83,ntmps83
 go_wp2;go_loopw [3] (fun i wr=> ∃k:Nat,k≤L.length∧i= .int .i64 k∧Hid (cI L=cI (L.drop k))∧Below w.heap.size w wr) (fun i _=>L.length-(intOf i).toNat)
 case atStart=>exact⟨0,Nat.zero_le _,rfl,(rfl:cI L=cI (L.drop 0)),aw⟩
 case round=>
  obtain⟨k,hk,rfl,Y,c⟩:=hrel
  by_cases g:k<L.length
  · obtain⟨b,o,rfl,A,H⟩:=P.out k g
    obtain⟨I,E,F,G⟩:=H.below A c
    have HD:Hid (L.drop k=L[k]::L.drop (k+1)):=List.drop_eq_getElem_cons g;have x:=HS.out L[k] (List.getElem_mem g)
    have X := hid (show bT L[k] ≠ 0 → bT L[k] = bg L from fun z => by
        have e1:cI L=bT L[k]:=by rw[Y.out,HD.out,cI,if_neg z]
        rw[HT.out,if_neg (by rw[e1];exact z),e1])
    have HG:=hid (show bT L[k]=0→cI L=cI (L.drop (k+1))from fun z=>by rw[Y.out,HD.out,cI,if_pos z]);rcases zu L[k]with⟨z,hE⟩|⟨z,K,hc,hE⟩|⟨z,K,hc,hE⟩|⟨z,K,hc,E0,hE⟩|⟨z,K,E0,hE⟩
    · have u:=hid (show aD (L[k]).path.data.toList=bg L from by rw[←hE];exact X.out (by rw[hE];exact z))
      have EJ:(aD (L[k]).path.data.toList==0)=false:=by simpa using z
      clear hE;go_wp2_with fail;refine(ig (L[k]).path _ x).mono ?_
      rintro e V ⟨rfl,f⟩;have d:=aG c f;clear I E F G c f;go_wp2;go_ret;exact⟨aB u.out,d⟩
    · have u:=hid (show 1=bg L from by rw[←X.out (by rw[hE];decide),hE])
      have Q:Hid (aD (L[k]).path.data.toList=0):=z;clear hE z;go_wp2_with fail;refine(ig (L[k]).path _ x).mono ?_
      rintro e V ⟨rfl,f⟩;rw[Q.out];have d:=aG c f;obtain⟨d0,N,Z,d3⟩:=H.below A d
      rw[K]at N;clear I E F G c f K;go_wp2;go_ret;exact⟨aB u.out,d⟩
    · have u:=hid (show 2=bg L from by rw[←X.out (by rw[hE];decide),hE])
      have Q:Hid (aD (L[k]).path.data.toList=0):=z;clear hE z;go_wp2_with fail;refine(ig (L[k]).path _ x).mono ?_
      rintro e V ⟨rfl,f⟩;rw[Q.out];have d:=aG c f;obtain⟨d0,N,Z,d3⟩:=H.below A d
      rw[K]at N;clear I E F G c f K;go_wp2;go_ret;exact⟨aB u.out,d⟩
    all_goals
     have Q:Hid (aD (L[k]).path.data.toList=0):=z;have M:Hid (bT L[k]=bm (L[k]).ver):=hE;clear hE z;go_wp2_with fail;refine(ig (L[k]).path _ x).mono ?_
     rintro e V ⟨rfl,f⟩;rw[Q.out];have d:=aG c f;obtain⟨d0,N,Z,d3⟩:=H.below A d
     rw[K]at N;clear I E F G c f K;go_wp2_with fail;refine(lh (L[k]).ver _).mono ?_
     rintro e w2 ⟨rfl,rfl⟩;cases hq:(bm (L[k]).ver==0)with
     |true=>
      have HR:=hid (show cI L=cI (L.drop (k+1))from HG.out (by rw[M.out];simpa using hq));clear hq;go_wp2;go_roundw
      case rel=>exact⟨k+1,by omega,by simp,HR,d⟩
      case measure=>simp[intOf];omega
     |false=>
      have u:=hid (show 3=bg L from by
       have O:bm (L[k]).ver≠0:=by simpa using hq
       have h3:bm (L[k]).ver=3:=by unfold bm at O⊢;split<;>simp_all
       rw[←X.out (by rw[M.out];exact O),M.out,h3])
      clear hq;go_wp2;go_ret;exact⟨aB u.out,d⟩
  · have HX:=hid (show bg L=if dP L=true then ex L L else 4 from by
     have e0:cI L=0:=by rw[Y.out,List.drop_eq_nil_of_le (by omega)];rfl
     rw[HT.out,if_pos e0])
    clear Y HT;go_wp2_with fail;clear g hk;go_loopw [5] (fun i wr=> ∃m:Nat,m≤L.length∧i= .int .i64 ((m:Int)+1)∧Hid (∀i (h:i+1<L.length),i<m→Pp.lt L[i] L[i+1]=true)∧Below w.heap.size w wr) (fun i _=>L.length+2-(intOf i).toNat)
    case atStart=>exact⟨0,Nat.zero_le _,rfl,(fun i _ h=>absurd h (Nat.not_lt_zero _): ∀i (h:i+1<L.length),i<0→Pp.lt L[i] L[i+1]=true),c⟩
    case round=>
     clear c;obtain⟨m,hm,rfl,C,c⟩:=hrel
     by_cases g:m+1<L.length
     · obtain⟨b,o,rfl,A,H⟩:=P.out m (by omega)
       obtain⟨I,E,F,G⟩:=H.below A c
       obtain⟨b',o',T,EI,E2⟩:=P.out (m+1) g
       obtain⟨rfl,rfl⟩:b=b'∧o=o':=by simpa using T
       obtain⟨d0,N,Z,d3⟩:=E2.below A c
       have E6:(m:Int)+1<L.length:=by omega
       clear E F G N Z d3 T;cases U:Pp.lt L[m] L[m+1]with
       |true=>
        have J:Op.bytesLess (L[m+1]).path.toList (L[m]).path.toList=false:=(Pp.lt_flip U).1;have E3:((L[m+1]).path.toList==(L[m]).path.toList)=false:=(Pp.lt_flip U).2;go_wp2_with fail;go_region
        go_wp2;go_roundw
        case rel=>exact⟨m+1,by omega,by simp,(fun i R h2=>by
         by_cases e:i=m
         · subst e;exact U
         · exact C.out i R (by omega): ∀i (h:i+1<L.length),i<m+1→Pp.lt L[i] L[i+1]=true),c.drew⟩
        case measure=>simp[intOf];omega
       |false=>
        have u:=hid (show 4=bg L from by rw[HX.out,←rX g U];rfl);rcases zx U with J|⟨J,E3⟩
        · have E4:Op.bytesLess (L[m+1]).path.toList (L[m]).path.toList=true:=J
          go_wp2_with fail;go_region
          go_wp2;go_ret;exact⟨aB u.out,c.drew⟩
        · have E4:Op.bytesLess (L[m+1]).path.toList (L[m]).path.toList=false:=J
          go_wp2_with fail;go_region
          go_wp2;go_ret;exact⟨aB u.out,c.drew⟩
     · have HY:=hid (show bg L=ex L L from by rw[HX.out,←rY fun i h=>C.out i h (by omega)];rfl)
       clear HX C;go_wp2_with fail;clear g hm;go_loopw [6] (fun i wr=> ∃k:Nat,k≤L.length∧i= .int .i64 k∧Hid (∀j (h:j<L.length),j<k→bE L L[j]≠5)∧Below w.heap.size w wr) (fun i _=>L.length-(intOf i).toNat)
       case atStart=>exact⟨0,Nat.zero_le _,rfl,(fun j _ h=>absurd h (Nat.not_lt_zero _): ∀j (h:j<L.length),j<0→bE L L[j]≠5),c⟩
       case round=>
        clear c;obtain⟨k,hk,rfl,C,c⟩:=hrel
        by_cases g:k<L.length
        · obtain⟨b,o,rfl,A,H⟩:=P.out k g
          obtain⟨I,E,F,G⟩:=H.below A c
          have x:=HS.out L[k] (List.getElem_mem g);go_wp2_with fail;refine(fv (L[k]).path _ x).mono ?_
          rintro e V ⟨rfl,f⟩;have d:=aG c f;clear I E F G c f;go_wp2_with fail;refine(fw L _ ⟨(aI (L[k]).path.data.toList).toArray⟩ _ (HV.out.below d)).mono ?_
          rintro e w2 ⟨rfl,B⟩;have s:=aG d B;clear d B;rw[show aO L _=bE L L[k]from rfl];by_cases S:bE L L[k]=5
          · have H5:Hid (bE L L[k]=5):=S
            have u:=hid (show 5=bg L from by rw[HY.out];exact rW g S);clear S;rw[H5.out];go_wp2;go_ret;exact⟨aB u.out,s⟩
          · have E9:(bE L L[k]==5)=false:=by simpa using S
            go_wp2;go_roundw
            case rel=>exact⟨k+1,by omega,by simp,(fun j R h2=>by
             by_cases e:j=k
             · subst e;exact S
             · exact C.out j R (by omega): ∀j (h:j<L.length),j<k+1→bE L L[j]≠5),s⟩
            case measure=>simp[intOf];omega
        · have H5:=hid (show∀j (h:j<L.length),bE L L[j]≠5 from fun j h=>C.out j h (by omega))
          clear C;go_wp2_with fail;clear g hk;go_loopw [7] (fun i wr=> ∃k:Nat,k≤L.length∧i= .int .i64 k∧Hid (∀j (h:j<L.length),j<k→bE L L[j]=0)∧Below w.heap.size w wr) (fun i _=>L.length-(intOf i).toNat)
          case atStart=>exact⟨0,Nat.zero_le _,rfl,(fun j _ h=>absurd h (Nat.not_lt_zero _): ∀j (h:j<L.length),j<0→bE L L[j]=0),c⟩
          case round=>
           clear c;obtain⟨k,hk,rfl,C,c⟩:=hrel
           by_cases g:k<L.length
           · obtain⟨b,o,rfl,A,H⟩:=P.out k g
             obtain⟨I,E,F,G⟩:=H.below A c
             have x:=HS.out L[k] (List.getElem_mem g);go_wp2_with fail;refine(fv (L[k]).path _ x).mono ?_
             rintro e V ⟨rfl,f⟩;have d:=aG c f;clear I E F G c f;go_wp2_with fail;refine(fw L _ ⟨(aI (L[k]).path.data.toList).toArray⟩ _ (HV.out.below d)).mono ?_
             rintro e w2 ⟨rfl,B⟩;have s:=aG d B;clear d B;rw[show aO L _=bE L L[k]from rfl];by_cases O:bE L L[k]=0
             · have H0:Hid (bE L L[k]=0):=O
               clear O;rw[H0.out];go_wp2;go_roundw
               case rel=>exact⟨k+1,by omega,by simp,(fun j R h2=>by
                by_cases e:j=k
                · subst e;exact H0.out
                · exact C.out j R (by omega): ∀j (h:j<L.length),j<k+1→bE L L[j]=0),s⟩
               case measure=>simp[intOf];omega
             · have E8:(bE L L[k]==0)=false:=by simpa using O
               have u:=hid (show 4=bg L from by rw[HY.out];exact zv g H5.out O);go_wp2;go_ret;exact⟨aB u.out,s⟩
           · have u:=hid (show 0=bg L from by rw[HY.out];exact zw (fun j h=>C.out j h (by omega)))
             go_wp2;go_ret;exact⟨aB u.out,c⟩
theorem tp (w:World) (a b c d:Value) (T:TypeId) (g:Nat) (i:g=w.heap.size): ∀j u,[a,b,c,d][j]?=some u→(w.alloc (.cells #[a,b,c,d] T)).cell? ((⟨g,0,none⟩:Addr).add j)=some u:=by
 subst i;intro j u f;match j,f with
 |0,f=>simp at f;subst f;simp[Addr.add]
 |1,f=>simp at f;subst f;simp[Addr.add]
 |2,f=>simp at f;subst f;simp[Addr.add]
 |3,f=>simp at f;subst f;simp[Addr.add]
 |j+4,f=>simp at f
theorem tq (x y:ByteArray) (f:Bool) (n:Int): ∀u∈[Value.string x,.bool f,.string y,.int .i64 n],u.oneCell'=true:=by
 intro u a;simp only[List.mem_cons,List.not_mem_nil,or_false]at a;rcases a with rfl|rfl|rfl|rfl<;>rfl
theorem zy (L:List En) (v:Value) (p q t:ByteArray) (b n:Int) (w:World) (hv:aF w v L) (hs:dk L) (hp:p.size≤150000000000000) (hq:q.size≤150000000000000) (hL:Pp.Good L) (hc:aQ ⟨3,p,q,t,b⟩=0) (hf:L.find? (aR q.data.toList)=none) (x0:En) (EZ:L.find? (aR p.data.toList)=some x0):
    Calls prog 202 #[v,.agg #[.int .i64 3,p,q,t,b],n] w fun e w'=>
     ((dw L ⟨3,p,q,t,b⟩).any (fun e=>bv (cp ⟨3,p,q,t,b⟩ e))=true∧e= .returned (.tuple #[al,.int .i64 2])∧Below w.heap.size w w')∨
     ((dw L ⟨3,p,q,t,b⟩).any (fun e=>bv (cp ⟨3,p,q,t,b⟩ e))=false∧ ∃u,e= .returned (.tuple #[u,ah])∧gJ w.heap.size w' u (eN (eM L ⟨3,p,q,t,b⟩ n) (cT L ⟨3,p,q,t,b⟩))∧Below w.heap.size w w'):=by
 obtain⟨i0,Fb,Fk,Fl,Fm⟩:=info_parts Tryz.infoE
 have H: ∀e∈L,aD e.path.data.toList=0:=fun e Y=>gY (hL.ents e Y)
 have EM:aD p.data.toList=0:=hD hc;have EX:aD q.data.toList=0:=kV hc rfl;have HK:=hid (show L.filter (fun e=> !d7 p.data.toList e)=cT L ⟨3,p,q,t,b⟩from pn fun e Y=>by rw[nj (H e Y) EM]);have HG:=hid (show L.filter (d7 p.data.toList)=dw L ⟨3,p,q,t,b⟩from pn fun e Y=>by rw[nj (H e Y) EM]);have HV:Hid (aF w v L):=hv;have HS:Hid (dk L):=hs;have hn:L.length≤60:=hL.len;have FL:(cT L ⟨3,p,q,t,b⟩).length≤L.length:=List.length_filter_le _ _;have FK:(dw L ⟨3,p,q,t,b⟩).length≤L.length:=List.length_filter_le _ _;have HD:Hid ((cT L ⟨3,p,q,t,b⟩++eM L ⟨3,p,q,t,b⟩ n).Pairwise fZ):=oO hL n (mS EX) hf;have HR:=hid (show(cT L ⟨3,p,q,t,b⟩).Pairwise (fun x y=>Pp.lt x y=true)from List.Pairwise.filter _ hL.rise)
 have HM:=hid (show∀e∈dw L ⟨3,p,q,t,b⟩,e.path.size≤1000000000∧bZ [e.path.data.toList,p.data.toList,q.data.toList]=0∧a8 e.path.data.toList p.data.toList=true from fun e Y=>by
  obtain⟨h1,h2⟩:=jg.1 Y
  exact⟨by rw[Lib.size_eq];have:=k7 (H e h1);omega,by simp[bZ,H e h1,EM,EX],h2⟩)
 have ET:eM L ⟨3,p,q,t,b⟩ n=(dw L ⟨3,p,q,t,b⟩).map (bG ⟨3,p,q,t,b⟩ n):=rfl
 have F9:dw L ⟨3,p,q,t,b⟩≠[]:=fun e=>by
  have h1:=List.mem_of_find?_eq_some EZ;have h2:x0.path.data.toList=p.data.toList:=by have:=List.find?_some EZ;simpa[aR]using this
  have h3:x0∈dw L ⟨3,p,q,t,b⟩:=jg.2 ⟨h1,by rw[h2];exact xD _⟩;rw[e]at h3;cases h3
 rw[ET]at HD⊢;clear ET EZ;generalize cT L ⟨3,p,q,t,b⟩=K at*;generalize dw L ⟨3,p,q,t,b⟩=G at*;clear hv hs hL hc hf H EM EX;go_enter func202,ntmps202
 go_wp2_with fail;refine(lT p _ (by omega)).mono ?_
 rintro e w1 ⟨rfl,Fg,EJ⟩;obtain⟨Z,c1,c2,c3,c4,C,I⟩:=aC EJ
 have Fv:=hid (show dh w1 214 #[.pointer (some ⟨w.heap.size+1,0,none⟩)] (d7 p.data.toList)from by simpa using Fg);clear Fg;go_wp2_with fail;refine(o5 _ _ (d7 p.data.toList) _ Fv.out).mono ?_
 rintro e w2 ⟨rfl,Fh,F6⟩;have Fw:=hid Fh;have T:=EJ.trans (F6.mono EJ.size);clear Fh Z c1 c2 c3 c4 C I EJ F6;obtain⟨Z,c1,c2,c3,c4,C,I⟩:=aC T
 have ER:=I;go_wp2_with fail;refine(lU L v _ _ (fun e=> !d7 p.data.toList e) _ (HV.out.below C) Fw.out (by omega) HS.out).mono ?_
 rintro e w3 ⟨u1,rfl,E7,FN,F7⟩;rw[HK.out]at E7;have U:=T.trans (F7.mono T.size);clear Z c1 c2 c3 c4 C I T;obtain⟨Z,c1,c2,c3,c4,C,I⟩:=aC U
 have Fj: ∀g,u1.ownBlock=some g→w.heap.size<g∧g<w3.heap.size:=fun g O=>⟨Nat.lt_of_lt_of_le ER (E7.lt g O).1,(E7.lt g O).2⟩
 have F3:=hid (Pp.own_mono (B:=w.heap.size) E7 (Nat.le_of_lt ER));clear E7;go_wp2_with fail;refine(lT p _ (by omega)).mono ?_
 rintro e w4 ⟨rfl,Fi,EK⟩;have Fx:=hid Fi;have V:=U.trans (EK.mono U.size);have F4:=hid (gh F3.out EK);have FE:=EK.size;clear Fi Z c1 c2 c3 c4 C I U F7 EK F3;obtain⟨Z,c1,c2,c3,c4,C,I⟩:=aC V
 go_wp2_with fail;refine(lU L v _ _ (d7 p.data.toList) _ (HV.out.below C) Fx.out (by omega) HS.out).mono ?_
 rintro e w5 ⟨u2,rfl,A,FO,EL⟩;rw[HG.out]at A;have Fs:=hid (gh F4.out EL);have EP:=V.trans (EL.mono V.size);have FG:=EL.size;clear Z c1 c2 c3 c4 C I V EL F4;obtain⟨Z,c1,c2,c3,c4,C,I⟩:=aC EP
 obtain⟨J,FB,rfl,FJ,FD,FI,FM⟩:=Pp.own_shape A F9
 have Fp:=hid (show∀i (h:i<G.length),dJ w5 J (i*4) G[i]from fun i h=>by
  obtain⟨a,EV,hv,_,_,hL⟩:=jI A (by omega)
  obtain⟨b',o',ha,_,Y⟩:=hL i h
  cases hv
  cases ha
  simpa using Y)
 have C1:=hid c1;have C2:=hid c2;clear Z c1 c2 c3 c4 A EP;go_wp2;go_loopw [8,25] (fun u i wr=> ∃k:Nat,k≤G.length∧i= .int .i64 k∧Hid ((G.take k).any (fun e=>bv (cp ⟨3,p,q,t,b⟩ e))=false)∧wr.ownsRow w.heap.size 145 4 u (K++(G.take k).map (bG ⟨3,p,q,t,b⟩ n)).length (cq (K++(G.take k).map (bG ⟨3,p,q,t,b⟩ n)))∧(∀g,u.ownBlock=some g→w.heap.size<g∧g≠J)∧wr.heap[J]?=w5.heap[J]?∧wr.heap[w.heap.size]?=w5.heap[w.heap.size]?∧w5.heap.size≤wr.heap.size∧Below w.heap.size w wr) (fun _ i _=>G.length-(intOf i).toNat)
 case atStart=>exact⟨0,Nat.zero_le _,rfl,(by simp:(G.take 0).any (fun e=>bv (cp ⟨3,p,q,t,b⟩ e))=false),by simpa using Fs.out,fun g O=>⟨(Fj g O).1,by have:=(Fj g O).2;omega⟩,rfl,rfl,ax,C⟩
 case round=>
  obtain⟨k,hk,rfl,HA,s,hub,E0,Q,E8,c⟩:=hrel
  have cc: ∀o,wr.cell? ⟨J,o,none⟩=w5.cell? ⟨J,o,none⟩:=fun o=>World.cell?_of_block E0
  have q1:wr.cell? ⟨w.heap.size,1,none⟩=some (.string p):=(World.cell?_of_block Q).trans C1.out;have q2:wr.cell? ⟨w.heap.size,2,none⟩=some (.string q):=(World.cell?_of_block Q).trans C2.out;have EN: ∀o,(wr.alloc o).cell? ⟨w.heap.size,1,none⟩=some (.string p):=fun o=>(((Below.refl wr.heap.size wr).alloc ax o).cell (p:=⟨w.heap.size,1,none⟩) (by show w.heap.size<_;omega)).trans q1
  have EO: ∀o,(wr.alloc o).cell? ⟨w.heap.size,2,none⟩=some (.string q):=fun o=>(((Below.refl wr.heap.size wr).alloc ax o).cell (p:=⟨w.heap.size,2,none⟩) (by show w.heap.size<_;omega)).trans q2
  by_cases E4:k<G.length
  · obtain⟨e0,e1,e2,e3⟩:=Fp.out k E4
    have Z:=(cc _).trans e0;have c1:=(cc _).trans e1;have c2:=(cc _).trans e2;have c3:=(cc _).trans e3;obtain⟨FH,H,EY⟩:=HM.out G[k] (List.getElem_mem E4)
    have S:=sv H EY;rw[rz H EY]at S
    have E3:(G.take (k+1)).any (fun e=>bv (cp ⟨3,p,q,t,b⟩ e))=bv (cp ⟨3,p,q,t,b⟩ G[k]):=by
     rw[List.take_succ_eq_append_getElem E4,List.any_append,HA.out];simp
    have E5:K++(G.take (k+1)).map (bG ⟨3,p,q,t,b⟩ n)=(K++(G.take k).map (bG ⟨3,p,q,t,b⟩ n))++[bG ⟨3,p,q,t,b⟩ n G[k]]:=by
     rw[List.take_succ_eq_append_getElem E4,List.map_append,List.append_assoc];rfl
    have EQ:(K++(G.take k).map (bG ⟨3,p,q,t,b⟩ n)).length≤200:=by
     rw[List.length_append,List.length_map,List.length_take];omega
    generalize K++(G.take k).map (bG ⟨3,p,q,t,b⟩ n)=X at*;clear cc e0 e1 e2 e3 H EY;cases F:bv (bV G[k].path.data.toList p.data.toList q.data.toList)with
    |true=>
     rw[F,if_pos rfl]at S;have HE:=hid S;have HX:=hid (show G.any (fun e=>bv (cp ⟨3,p,q,t,b⟩ e))=true from List.any_eq_true.2 ⟨G[k],List.getElem_mem E4,F⟩);clear S E3 E5 F;go_wp2_with fail;refine(o4 G[k].path p q _ (by omega) (by omega) (by omega)).mono ?_
     rintro e w6 ⟨rfl,f⟩;rw[HE.out,lH (by decide)];obtain⟨d0,d1,d2,d3,j,ES⟩:=dK f
     have EW:=aG c j;clear f Z c1 c2 c3 q1 q2 EN EO;go_wp2_with fail;go_ret2;exact Or.inl ⟨HX.out,rfl,EW⟩
    |false=>
     rw[F,if_neg (by decide)]at S;have HE:=hid S;have F1:=hid (show(G.take (k+1)).any (fun e=>bv (cp ⟨3,p,q,t,b⟩ e))=false from E3.trans F);have F2:=hid E5;clear S E3 E5 F
     have Fy : ((G[k].path.toList == p.toList) = true ∧ Hid (Pp.cells (bG ⟨3, p, q, t, b⟩ n G[k]) = [.string ⟨(bV G[k].path.data.toList p.data.toList q.data.toList).toArray⟩, .bool G[k].folder, .string G[k].text, .int .i64 n])) ∨
         ((G[k].path.toList==p.toList)=false∧Hid (Pp.cells (bG ⟨3,p,q,t,b⟩ n G[k])=[.string ⟨(bV G[k].path.data.toList p.data.toList q.data.toList).toArray⟩,.bool G[k].folder,.string G[k].text,.int .i64 G[k].ver])):=by
      cases Y:(G[k].path.toList==p.toList)with
      |true=>
       have he2:G[k].path.data.toList=p.data.toList:=by rw[Lib.toList_data,Lib.toList_data]at Y;simpa using Y
       refine Or.inl ⟨rfl,(by rw[Pp.cells,bG];simp only[he2,if_true,cp]:Pp.cells (bG ⟨3,p,q,t,b⟩ n G[k])=_)⟩
      |false=>
       have he2: ¬G[k].path.data.toList=p.data.toList:=by rw[Lib.toList_data,Lib.toList_data]at Y;simpa using Y
       refine Or.inr ⟨rfl,(by rw[Pp.cells,bG];simp only[he2,if_false,cp]:Pp.cells (bG ⟨3,p,q,t,b⟩ n G[k])=_)⟩
     rcases Fy with⟨FA,HC⟩|⟨FA,HC⟩
     · go_wp2_with fail
       refine(o4 G[k].path p q _ (by omega) (by omega) (by omega)).mono ?_
       rintro e w6 ⟨rfl,f⟩;rw[HE.out,fF rfl];obtain⟨d0,d1,d2,d3,j,ES⟩:=dK f
       have f0:=gF f 0;have f3:=gF f 3;have F0:w6.cell? ⟨w.heap.size,1,none⟩=some (.string p):=(j.cell (p:=⟨w.heap.size,1,none⟩) (by show w.heap.size<_;omega)).trans q1;clear f Z c1 c2 c3 q1 q2 EN EO;have z: ∀o,Below wr.heap.size wr (((w6.setCell ⟨wr.heap.size,3,none⟩ n).setCell ⟨wr.heap.size,0,none⟩ (.string ⟨(bV G[k].path.data.toList p.data.toList q.data.toList).toArray⟩)).alloc o):=fun o=>Below.alloc (((j.setCell (p:=⟨wr.heap.size,3,none⟩) ax _).setCell (p:=⟨wr.heap.size,0,none⟩) ax _)) (by first|(simp;omega)|omega) o
       go_wp2_with (at_builtin;refine wpList_append_own_at _ rfl _ _ 33 rfl w.heap.size 145 i0 (.agg #[.string ⟨#[]⟩,false,.string ⟨#[]⟩,ah]) 4 48 underlying33 Fb Fk Fl Fm rfl (by decide) _ _ _ rfl (gh s (z _)) ⟨w6.heap.size,0,none⟩ 1 1 [.string ⟨(bV G[k].path.data.toList p.data.toList q.data.toList).toArray⟩,.bool G[k].folder,.string G[k].text,n] rfl rfl ?c1 ?c2 ?c3 ?c4 ?c5 ?_)
       case c1=>exact tp _ _ _ _ _ _ _ (by simp)
       case c2=>exact tq _ _ _ _
       case c3=>unfold maxLen;omega
       case c4=>omega
       case c5=>have:=c.size;simp;omega
       intro v2 E A d E6 N;have P:=(z (.cells #[.string ⟨(bV G[k].path.data.toList p.data.toList q.data.toList).toArray⟩,.bool G[k].folder,.string G[k].text,n] 145)).size;have R:Below w.heap.size w E:=(c.trans ((z _).mono c.size)).grown d (by have:=c.size;omega) (fun g O=>Nat.le_of_lt (hub g O).1);have E1:E.heap[J]?=w5.heap[J]?:=((d.block J (by omega) (fun e=>(hub J e.symm).2 rfl)).trans ((z _).block J (by omega))).trans E0;have E2:E.heap[w.heap.size]?=w5.heap[w.heap.size]?:=((d.block w.heap.size (by have:=c.size;omega) (fun e=>Nat.lt_irrefl _ (hub _ e.symm).1)).trans ((z _).block w.heap.size (by omega))).trans Q;have E9:w5.heap.size≤E.heap.size:=Nat.le_trans E8 (Nat.le_trans P d.size)
       have EH: ∀g,v2.ownBlock=some g→w.heap.size<g∧g≠J:=fun g O=>by
        rcases N with h|h
        · exact hub g (h.symm.trans O)
        · rw[h]at O
          have e:=Option.some.inj O;constructor<;>omega
       rw[←HC.out,gG]at A;have HO:Hid (E.ownsRow w.heap.size 145 4 v2 (X.length+1) (cq (X++[bG ⟨3,p,q,t,b⟩ n G[k]]))):=A;clear A d E6 N s hub E0 Q E8 z P c d0 d1 d2 d3 f0 f3 F0 j;go_wp2;go_roundw
       case rel=>exact⟨k+1,by omega,by simp,F1,by rw[F2.out,List.length_append];exact HO.out,EH,E1,E2,E9,R⟩
       case measure=>simp[intOf];omega
     · go_wp2_with fail
       refine(o4 G[k].path p q _ (by omega) (by omega) (by omega)).mono ?_
       rintro e w6 ⟨rfl,f⟩;rw[HE.out,fF rfl];obtain⟨d0,d1,d2,d3,j,ES⟩:=dK f
       have f0:=gF f 0;have f3:=gF f 3;have F0:w6.cell? ⟨w.heap.size,1,none⟩=some (.string p):=(j.cell (p:=⟨w.heap.size,1,none⟩) (by show w.heap.size<_;omega)).trans q1;clear f Z c1 c2 c3 q1 q2 EN EO;have z: ∀o,Below wr.heap.size wr ((w6.setCell ⟨wr.heap.size,0,none⟩ (.string ⟨(bV G[k].path.data.toList p.data.toList q.data.toList).toArray⟩)).alloc o):=fun o=>Below.alloc ((j.setCell (p:=⟨wr.heap.size,0,none⟩) ax _)) (by first|(simp;omega)|omega) o
       go_wp2_with (at_builtin;refine wpList_append_own_at _ rfl _ _ 33 rfl w.heap.size 145 i0 (.agg #[.string ⟨#[]⟩,false,.string ⟨#[]⟩,ah]) 4 48 underlying33 Fb Fk Fl Fm rfl (by decide) _ _ _ rfl (gh s (z _)) ⟨w6.heap.size,0,none⟩ 1 1 [.string ⟨(bV G[k].path.data.toList p.data.toList q.data.toList).toArray⟩,.bool G[k].folder,.string G[k].text,.int .i64 G[k].ver] rfl rfl ?c1 ?c2 ?c3 ?c4 ?c5 ?_)
       case c1=>exact tp _ _ _ _ _ _ _ (by simp)
       case c2=>exact tq _ _ _ _
       case c3=>unfold maxLen;omega
       case c4=>omega
       case c5=>have:=c.size;simp;omega
       intro v2 E A d E6 N;have P:=(z (.cells #[.string ⟨(bV G[k].path.data.toList p.data.toList q.data.toList).toArray⟩,.bool G[k].folder,.string G[k].text,.int .i64 G[k].ver] 145)).size;have R:Below w.heap.size w E:=(c.trans ((z _).mono c.size)).grown d (by have:=c.size;omega) (fun g O=>Nat.le_of_lt (hub g O).1);have E1:E.heap[J]?=w5.heap[J]?:=((d.block J (by omega) (fun e=>(hub J e.symm).2 rfl)).trans ((z _).block J (by omega))).trans E0;have E2:E.heap[w.heap.size]?=w5.heap[w.heap.size]?:=((d.block w.heap.size (by have:=c.size;omega) (fun e=>Nat.lt_irrefl _ (hub _ e.symm).1)).trans ((z _).block w.heap.size (by omega))).trans Q;have E9:w5.heap.size≤E.heap.size:=Nat.le_trans E8 (Nat.le_trans P d.size)
       have EH: ∀g,v2.ownBlock=some g→w.heap.size<g∧g≠J:=fun g O=>by
        rcases N with h|h
        · exact hub g (h.symm.trans O)
        · rw[h]at O
          have e:=Option.some.inj O;constructor<;>omega
       rw[←HC.out,gG]at A;have HO:Hid (E.ownsRow w.heap.size 145 4 v2 (X.length+1) (cq (X++[bG ⟨3,p,q,t,b⟩ n G[k]]))):=A;clear A d E6 N s hub E0 Q E8 z P c d0 d1 d2 d3 f0 f3 F0 j;go_wp2;go_roundw
       case rel=>exact⟨k+1,by omega,by simp,F1,by rw[F2.out,List.length_append];exact HO.out,EH,E1,E2,E9,R⟩
       case measure=>simp[intOf];omega
  · have ek:G.take k=G:=List.take_of_length_le (by omega)
    rw[ek]at s HA
    have Fe:K++G.map (bG ⟨3,p,q,t,b⟩ n)≠[]:=by
     intro e;rw[List.append_eq_nil_iff]at e;exact F9 (List.map_eq_nil_iff.1 e.2)
    obtain⟨g,EV,rfl,Fz,Fa,F8,FC⟩:=Pp.own_shape s Fe
    have EQ:(K++G.map (bG ⟨3,p,q,t,b⟩ n)).length≤200:=by
     rw[List.length_append,List.length_map];omega
    have HO:=hid s;have Fo:=hid HD.out;generalize EI:K++G.map (bG ⟨3,p,q,t,b⟩ n)=X at HO Fe EQ F8;have HX:Hid (X=K++G.map (bG ⟨3,p,q,t,b⟩ n)):=EI.symm;try rw[EI]at s
    try rw[EI]
    clear EI;clear s hub E0 Q E8 cc q1 q2 EN EO ek;go_wp2_with fail;refine(sC X w.heap.size g EV _ HO.out (by omega) F8 Fz Fa).mono ?_
    rintro e w6 ⟨rfl,M,Ff,EU,Fc,f⟩;have Fq:Hid (gJ w.heap.size w6 (.slice (some ⟨g,0,none⟩) X.length EV) M):=Fc;have Ft:=hid Ff;have F5:=hid EU;clear Ff EU Fc;go_wp2;go_ret2;exact Or.inr ⟨HA.out,_,rfl,by rw[←xz (HX.out▸Ft.out) F5.out HR.out Fo.out];exact Fq.out,c.trans f⟩
def im (x:En) (s:List En×Bool) (y:En):List En×Bool:=
 (if y.path.data.toList=x.path.data.toList then(if s.2=false∧Pp.lt y x=false then s.1++[x]else s.1)else(if s.2=false∧Pp.lt y x=false then s.1++[x]else s.1)++[y],s.2|| !(Pp.lt y x))
def dH (x:En) (L:List En):List En×Bool:=L.foldl (im x) ([],false)
def gm (x:En) (L:List En):List En:=if(dH x L).2=true then(dH x L).1 else(dH x L).1++[x]
theorem ts (x:En) (A:List En) (y:En):dH x (A++[y])=im x (dH x A) y:=by rw[dH,List.foldl_append];rfl
theorem pL {x:En}: ∀{A:List En},(∀y∈A,Pp.lt y x=true)→ ∀B,b7 x (A++B)=A++b7 x B
 |[],_,_=>rfl
 |y::r,h,B=>by
  rw[List.cons_append,b7,if_pos (h y (by simp)),pL (fun z a=>h z (by simp[a]))];rfl
theorem tt {x y:En} (h:Pp.lt y x=false): ∀K,b7 x (K++[y])=b7 x K++[y]
 |[]=>by simp[b7,h]
 |z::r=>by
  rw[List.cons_append,b7,b7];split
  · rw[tt h r];rfl
  · rfl
theorem zz {x y:En} (h:y.path.data.toList=x.path.data.toList):aR x.path.data.toList y=true:=by rw[aR,h];exact beq_self_eq_true _
theorem pM {x y:En} (h: ¬y.path.data.toList=x.path.data.toList):aR x.path.data.toList y=false:=by rw[aR];exact beq_eq_false_iff_ne.2 h
theorem zA {x y:En} (h:y.path.data.toList=x.path.data.toList):cJ x [y]=[]:=by rw[cJ,List.filter_cons,zz h];rfl
theorem tu {x y:En} (h: ¬y.path.data.toList=x.path.data.toList):cJ x [y]=[y]:=by rw[cJ,List.filter_cons,pM h];rfl
theorem tv {x:En} {A:List En} (h: ∀y∈A,Pp.lt y x=true):cJ x A=A:=by
 rw[cJ,List.filter_eq_self];intro y a;rw[pM (lK (h y a))];rfl
theorem tw (x:En) (A B:List En):cJ x (A++B)=cJ x A++cJ x B:=by rw[cJ,List.filter_append];rfl
theorem tz {x x' y:En} (h:x.path.data.toList=x'.path.data.toList):Pp.lt y x=Pp.lt y x':=by
 rw[gZ,gZ];unfold Pp.cfE;rw[h]
theorem zB {x:En} {L:List En} (B:L.Pairwise (fun x y=>Pp.lt x y=true)): ∀k,k≤L.length→dH x (L.take k)=if(L.take k).all (fun y=>Pp.lt y x)=true then(L.take k,false)else(b7 x (cJ x (L.take k)),true):=by
 intro k;induction k with
 |zero=>intro _;simp[dH]
 |succ k ih=>
  intro G;have o:k<L.length:=by omega
  have ih:=ih (by omega)
  have s: ∀z∈L.take k,Pp.lt z L[k]=true:=fun z u=>by
   obtain⟨i,F,rfl⟩:=List.getElem_of_mem u
   rw[List.length_take]at F;rw[List.getElem_take];exact List.pairwise_iff_getElem.1 B i k (by omega) o (by omega)
  rw[List.take_succ_eq_append_getElem o,ts,ih];generalize L[k]=y at*;generalize L.take k=A at*;cases a:A.all (fun y=>Pp.lt y x)with
  |true=>
   have v: ∀z∈A,Pp.lt z x=true:=fun z u=>List.all_eq_true.1 a z u
   cases c:Pp.lt y x with
   |true=>
    have C:=lK c;have j:(A++[y]).all (fun y=>Pp.lt y x)=true:=by rw[List.all_append,a];simp[c]
    rw[if_pos rfl,if_pos j,im];simp only[c,if_neg (show¬y.path.data.toList=x.path.data.toList from C)];simp
   |false=>
    have j:(A++[y]).all (fun y=>Pp.lt y x)=false:=by rw[List.all_append,a];simp[c]
    rw[if_pos rfl,if_neg (by rw[j];decide),im,tw,tv v,pL v];by_cases d:y.path.data.toList=x.path.data.toList
    · have e2:=zA d
      rw[e2];simp only[d,c,b7,if_true,if_false,and_self,Bool.false_eq_true,Bool.not_false,Bool.or_true,List.append_assoc,List.cons_append,List.nil_append]
    · have e2:=tu d
      rw[e2];simp only[d,c,b7,if_true,if_false,and_self,Bool.false_eq_true,Bool.not_false,Bool.or_true,List.append_assoc,List.cons_append,List.nil_append]
  |false=>
   obtain⟨z,u,f⟩: ∃z∈A,Pp.lt z x=false:=by
    have:=List.all_eq_false.1 a
    simpa using this
   have g:=s z u
   have c:Pp.lt y x=false:=by
    cases E:Pp.lt y x with
    |false=>rfl
    |true=>rw[fY z y x g E]at f;cases f
   have d: ¬y.path.data.toList=x.path.data.toList:=fun e=>by
    rw[tz e,f]at g;cases g
   have j:(A++[y]).all (fun y=>Pp.lt y x)=false:=by rw[List.all_append,a];rfl
   have e2:=tu d;rw[if_neg (by decide),if_neg (by rw[j];decide),im,tw,e2,tt c];simp only[d,if_false,Bool.true_eq_false,false_and,Bool.true_or]
theorem nr {x:En} {L:List En} (d:L.Pairwise (fun x y=>Pp.lt x y=true)):gm x L=b7 x (cJ x L):=by
 have h:=zB (x:=x) d L.length ax;rw[List.take_length]at h;rw[gm,h];cases a:L.all (fun y=>Pp.lt y x)with
 |true=>
  have c: ∀z∈L,Pp.lt z x=true:=fun z f=>List.all_eq_true.1 a z f
  have e:=pL c [];rw[List.append_nil]at e;rw[tv c,e];simp[b7]
 |false=>simp
theorem nt (L:List En) (v:Value) (x:En) (w:World) (hv:aF w v L) (hn:L.length≤1000000):
    Calls prog 115 #[v,.agg #[x.path,x.folder,x.text,x.ver]] w fun e w'=> ∃u,e= .returned u∧w'.ownsRow w.heap.size 145 4 u (gm x L).length (cq (gm x L))∧Below w.heap.size w w':=by
 obtain⟨i0,M,N,O,P⟩:=info_parts Tryz.infoE
 obtain⟨a,EH,rfl,E8,E6,hL⟩:=hv
 have HL:Hid (∀i (h:i<L.length),∃b o,a=some ⟨b,o,none⟩∧b<w.heap.size∧dJ w b (o+i*4) L[i]):=hL;clear hL;go_enter func115,ntmps115
 go_wp2_with fail;have HX:=hid (show∀k,∀h:k<L.length,dH x (L.take (k+1))=im x (dH x (L.take k)) L[k]from fun k h=>by rw[List.take_succ_eq_append_getElem h,ts]);go_loopw [5,6,7] (fun o pt i wr=> ∃k:Nat,k≤L.length∧i= .int .i64 k∧pt= .bool (dH x (L.take k)).2∧(dH x (L.take k)).1.length≤2*k∧wr.ownsRow (w.heap.size+1) 145 4 o (dH x (L.take k)).1.length (cq (dH x (L.take k)).1)∧Below (w.alloc (.cells #[x.path,x.folder,x.text,x.ver] 145)).heap.size (w.alloc (.cells #[x.path,x.folder,x.text,x.ver] 145)) wr) (fun _ _ i _=>L.length-(intOf i).toNat)
 case atStart=>exact⟨0,Nat.zero_le _,rfl,rfl,by simp[dH],World.ownsRow_nil _ _ _ _,aw⟩
 case round=>
  obtain⟨k,hk,rfl,rfl,E2,A,E⟩:=hrel
  obtain⟨r0,r1,r2,r3,E3,E9⟩:=dK E
  by_cases E5:k<L.length
  · obtain⟨b,o,rfl,hb,he⟩:=HL.out k E5
    obtain⟨c0,c1,c2,c3⟩:=he.below hb E3
    have I:=HX.out k E5;generalize dH x (L.take k)=S at*;obtain⟨X,pb⟩:=S
    simp only at E2 A;have C:=A.drew.drew;have f:=E.drew.drew;have G:=A.drew;have s:=E.drew;cases pb with
    |true=>
     cases U:(L[k].path.toList==x.path.toList)with
     |true=>
      have H:L[k].path.data.toList=x.path.data.toList:=by rw[Lib.toList_data,Lib.toList_data]at U;simpa using U
      have B:=hid (show dH x (L.take (k+1))=(X,true)from by rw[I,im];simp only[H,if_true,Bool.true_eq_false,false_and,if_false,Bool.true_or]);clear I H;go_wp2_with fail;go_region
      go_wp2_with fail;go_region
      go_wp2;go_roundw
      case rel=>exact⟨k+1,by omega,by simp,by rw[B.out],by rw[B.out];simp only;omega,by rw[B.out];exact C,f⟩
      case measure=>simp[intOf];omega
     |false=>
      have H: ¬L[k].path.data.toList=x.path.data.toList:=by rw[Lib.toList_data,Lib.toList_data]at U;simpa using U
      have B:=hid (show dH x (L.take (k+1))=(X++[L[k]],true)from by rw[I,im];simp only[H,if_false,Bool.true_eq_false,false_and,Bool.true_or]);clear I H;go_wp2_with fail;go_region
      go_wp2_with fail;go_region
      go_wp2_with (at_builtin;refine wpList_append_own _ rfl _ _ 33 rfl (w.heap.size+1) 145 i0 (.agg #[.string ⟨#[]⟩,false,.string ⟨#[]⟩,ah]) 4 48 underlying33 M N O P rfl (by decide) _ _ _ rfl (C.alloc _) ⟨wr.heap.size,0,none⟩ 1 1 (Pp.cells L[k]) rfl rfl (gi wr.drew.drew L[k] _) (gH _) (by unfold maxLen;omega) (by omega) (by have:=f.size;simp at this⊢;omega) ?_)
      intro Z K z j F;have c:Below (w.alloc (.cells #[x.path,x.folder,x.text,x.ver] 145)).heap.size (w.alloc (.cells #[x.path,x.folder,x.text,x.ver] 145)) K:=(f.alloc f.size _).grown j (by have:=f.size;simp at this⊢;omega) (fun g Q=>by have:=(C.lt g Q).1;simp;omega);rw[gG]at z;have d:K.ownsRow (w.heap.size+1) 145 4 Z (X++[L[k]]).length (cq (X++[L[k]])):=by rw[List.length_append];exact z
      clear z j F;have V:=hid d;clear d A E C f G s c0 c1 c2 c3 r0 r1 r2 r3 he;go_wp2;go_roundw
      case rel=>exact⟨k+1,by omega,by simp,by rw[B.out],by rw[B.out,List.length_append];simp only[List.length_singleton];omega,by rw[B.out];exact V.out,c⟩
      case measure=>simp[intOf];omega
    |false=>
     cases R:Pp.lt L[k] x with
     |true=>
      have E7:Op.bytesLess L[k].path.toList x.path.toList=true:=R
      have E4:Op.bytesLess x.path.toList L[k].path.toList=false:=by
       cases hh:Op.bytesLess x.path.toList L[k].path.toList with
       |false=>rfl
       |true=>have:=fY L[k] x L[k] R hh;rw[dU]at this;cases this
      have H: ¬L[k].path.data.toList=x.path.data.toList:=lK R;have U:(L[k].path.toList==x.path.toList)=false:=by rw[Lib.toList_data,Lib.toList_data];exact beq_eq_false_iff_ne.2 H
      have B:=hid (show dH x (L.take (k+1))=(X++[L[k]],false)from by rw[I,im,R];simp only[H,if_false,Bool.true_eq_false,and_false,Bool.not_true,Bool.or_false]);clear I H R;go_wp2_with fail;go_region
      go_wp2_with fail;go_region
      go_wp2_with (at_builtin;refine wpList_append_own _ rfl _ _ 33 rfl (w.heap.size+1) 145 i0 (.agg #[.string ⟨#[]⟩,false,.string ⟨#[]⟩,ah]) 4 48 underlying33 M N O P rfl (by decide) _ _ _ rfl (C.alloc _) ⟨wr.heap.size,0,none⟩ 1 1 (Pp.cells L[k]) rfl rfl (gi wr.drew.drew L[k] _) (gH _) (by unfold maxLen;omega) (by omega) (by have:=f.size;simp at this⊢;omega) ?_)
      intro Z K z j F;have c:Below (w.alloc (.cells #[x.path,x.folder,x.text,x.ver] 145)).heap.size (w.alloc (.cells #[x.path,x.folder,x.text,x.ver] 145)) K:=(f.alloc f.size _).grown j (by have:=f.size;simp at this⊢;omega) (fun g Q=>by have:=(C.lt g Q).1;simp;omega);rw[gG]at z;have d:K.ownsRow (w.heap.size+1) 145 4 Z (X++[L[k]]).length (cq (X++[L[k]])):=by rw[List.length_append];exact z
      clear z j F;have V:=hid d;clear d A E C f G s c0 c1 c2 c3 r0 r1 r2 r3 he;go_wp2;go_roundw
      case rel=>exact⟨k+1,by omega,by simp,by rw[B.out],by rw[B.out,List.length_append];simp only[List.length_singleton];omega,by rw[B.out];exact V.out,c⟩
      case measure=>simp[intOf];omega
     |false=>
      have E7:Op.bytesLess L[k].path.toList x.path.toList=false:=R;cases U:(L[k].path.toList==x.path.toList)with
      |true=>
       have H:L[k].path.data.toList=x.path.data.toList:=by rw[Lib.toList_data,Lib.toList_data]at U;simpa using U
       have E4:Op.bytesLess x.path.toList L[k].path.toList=false:=by
        have:=dU x
        rw[←tz (x:=L[k]) (x':=x) (y:=x) H]at this;exact this
       have B:=hid (show dH x (L.take (k+1))=(X++[x],true)from by rw[I,im,R];simp only[H,if_true,and_self,Bool.not_false,Bool.or_true]);clear I H R;go_wp2_with fail;go_region
       go_wp2_with (at_builtin;refine wpList_append_own _ rfl _ _ 33 rfl (w.heap.size+1) 145 i0 (.agg #[.string ⟨#[]⟩,false,.string ⟨#[]⟩,ah]) 4 48 underlying33 M N O P rfl (by decide) _ _ _ rfl (G.alloc _) ⟨wr.heap.size,0,none⟩ 1 1 (Pp.cells x) rfl rfl (gi wr.drew x _) (gH _) (by unfold maxLen;omega) (by omega) (by have:=s.size;simp at this⊢;omega) ?_)
       intro Z K z j F;have c:Below (w.alloc (.cells #[x.path,x.folder,x.text,x.ver] 145)).heap.size (w.alloc (.cells #[x.path,x.folder,x.text,x.ver] 145)) K:=(s.alloc s.size _).grown j (by have:=s.size;simp at this⊢;omega) (fun g Q=>by have:=(G.lt g Q).1;simp;omega);rw[gG]at z;have d:K.ownsRow (w.heap.size+1) 145 4 Z (X++[x]).length (cq (X++[x])):=by rw[List.length_append];exact z
       clear z j F;obtain⟨s0,s1,s2,s3,J,E0⟩:=dK c
       obtain⟨d0,d1,d2,d3⟩:=he.below hb J
       have V:=hid d;clear d A E C f G s c0 c1 c2 c3 r0 r1 r2 r3 he;go_wp2_with fail;go_region
       go_wp2;go_roundw
       case rel=>exact⟨k+1,by omega,by simp,by rw[B.out],by rw[B.out,List.length_append];simp only[List.length_singleton];omega,by rw[B.out];exact V.out.drew,c.drew⟩
       case measure=>simp[intOf];omega
      |false=>
       have H: ¬L[k].path.data.toList=x.path.data.toList:=by rw[Lib.toList_data,Lib.toList_data]at U;simpa using U
       have E4:Op.bytesLess x.path.toList L[k].path.toList=true:=by
        cases hh:Op.bytesLess x.path.toList L[k].path.toList with
        |true=>rfl
        |false=>exact absurd (kS R hh) H
       have B:=hid (show dH x (L.take (k+1))=(X++[x]++[L[k]],true)from by rw[I,im,R];simp only[H,if_true,if_false,and_self,Bool.not_false,Bool.or_true]);clear I H R;go_wp2_with fail;go_region
       go_wp2_with (at_builtin;refine wpList_append_own _ rfl _ _ 33 rfl (w.heap.size+1) 145 i0 (.agg #[.string ⟨#[]⟩,false,.string ⟨#[]⟩,ah]) 4 48 underlying33 M N O P rfl (by decide) _ _ _ rfl (G.alloc _) ⟨wr.heap.size,0,none⟩ 1 1 (Pp.cells x) rfl rfl (gi wr.drew x _) (gH _) (by unfold maxLen;omega) (by omega) (by have:=s.size;simp at this⊢;omega) ?_)
       intro Z K z j F;have c:Below (w.alloc (.cells #[x.path,x.folder,x.text,x.ver] 145)).heap.size (w.alloc (.cells #[x.path,x.folder,x.text,x.ver] 145)) K:=(s.alloc s.size _).grown j (by have:=s.size;simp at this⊢;omega) (fun g Q=>by have:=(G.lt g Q).1;simp;omega);rw[gG]at z;have d:K.ownsRow (w.heap.size+1) 145 4 Z (X++[x]).length (cq (X++[x])):=by rw[List.length_append];exact z
       clear z j F;obtain⟨s0,s1,s2,s3,J,E0⟩:=dK c
       obtain⟨d0,d1,d2,d3⟩:=he.below hb J
       have EI:(X++[x]).length≤X.length+1:=by simp
       generalize X++[x]=Y at*;clear A E C f G s c0 c1 c2 c3 r0 r1 r2 r3;go_wp2_with fail;go_region
       go_wp2_with (at_builtin;refine wpList_append_own _ rfl _ _ 33 rfl (w.heap.size+1) 145 i0 (.agg #[.string ⟨#[]⟩,false,.string ⟨#[]⟩,ah]) 4 48 underlying33 M N O P rfl (by decide) _ _ _ rfl (d.drew.alloc _) ⟨K.heap.size,0,none⟩ 1 1 (Pp.cells L[k]) rfl rfl (gi K.drew L[k] _) (gH _) (by unfold maxLen;omega) (by omega) (by have:=c.size;simp at this⊢;omega) ?_)
       intro v3 w3 z j F;have E1:Below (w.alloc (.cells #[x.path,x.folder,x.text,x.ver] 145)).heap.size (w.alloc (.cells #[x.path,x.folder,x.text,x.ver] 145)) w3:=(c.drew.alloc c.drew.size _).grown j (by have:=c.size;simp at this⊢;omega) (fun g Q=>by have:=(d.drew.lt g Q).1;simp;omega);rw[gG]at z;have T:w3.ownsRow (w.heap.size+1) 145 4 v3 (Y++[L[k]]).length (cq (Y++[L[k]])):=by rw[List.length_append];exact z
       clear z j F;have V:=hid T;clear T d c d0 d1 d2 d3 s0 s1 s2 s3 he;go_wp2;go_roundw
       case rel=>exact⟨k+1,by omega,by simp,by rw[B.out],by rw[B.out,List.length_append];simp only[List.length_singleton];omega,by rw[B.out];exact V.out,E1⟩
       case measure=>simp[intOf];omega
  · have ek:L.take k=L:=List.take_of_length_le (by omega)
    rw[ek]at A E2⊢;have hR:gm x L=if(dH x L).2=true then(dH x L).1 else(dH x L).1++[x]:=rfl
    generalize dH x L=S at*;obtain⟨X,pb⟩:=S
    simp only at E2 A hR;cases pb with
    |true=>
     rw[if_pos rfl]at hR;have HR:=hid hR;clear hR;go_wp2;go_ret;exact⟨_,rfl,by rw[HR.out];exact Pp.own_mono A (by simp),E3⟩
    |false=>
     rw[if_neg (by decide)]at hR;have HR:=hid hR;clear hR;go_wp2_with (at_builtin;refine wpList_append_own _ rfl _ _ 33 rfl (w.heap.size+1) 145 i0 (.agg #[.string ⟨#[]⟩,false,.string ⟨#[]⟩,ah]) 4 48 underlying33 M N O P rfl (by decide) _ _ _ rfl (A.alloc _) ⟨wr.heap.size,0,none⟩ 1 1 (Pp.cells x) rfl rfl (gi wr x _) (gH _) (by unfold maxLen;omega) (by omega) (by have:=E.size;simp at this⊢;omega) ?_)
     intro Z K z j F;have c:Below (w.alloc (.cells #[x.path,x.folder,x.text,x.ver] 145)).heap.size (w.alloc (.cells #[x.path,x.folder,x.text,x.ver] 145)) K:=(E.alloc E.size _).grown j (by have:=E.size;simp at this⊢;omega) (fun g Q=>by have:=(A.lt g Q).1;simp;omega);rw[gG]at z;have d:K.ownsRow (w.heap.size+1) 145 4 Z (X++[x]).length (cq (X++[x])):=by rw[List.length_append];exact z
     clear z j F;obtain⟨s0,s1,s2,s3,J,E0⟩:=dK c
     have V:=hid d;clear d A E r0 r1 r2 r3 s0 s1 s2 s3;go_wp2;go_ret;exact⟨_,rfl,by rw[HR.out];exact Pp.own_mono V.out (by simp),J⟩
end Go.Proofs.YtdlpjlfefjipkaaGreat
