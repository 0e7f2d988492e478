/- Keys: what word.inKeys and word.Key answer, for every byte and every text. -/
import Derived.Test.YtgamnckfmmbjdaaGreatDoorProg
import Derived.Test.YtgamnckfmmbjdaaGreatDoorWGA
import Derived.Lib.Bytealg
set_option linter.unusedSimpArgs false
set_option linter.unusedVariables false
namespace Go.Proofs.YtgamnckfmmbjdaaGreatDoor
open Go.RowKit Go.Proofs.Tryz
set_option maxHeartbeats 800000
theorem ph {a b:Bool} (h:a=b):Ending.returned (.bool a)= .returned (.bool b):=by rw[h]
def dw (c:UInt8):Bool:=decide (97≤(c.toNat:Int)∧(c.toNat:Int)≤122∨65≤(c.toNat:Int)∧(c.toNat:Int)≤90∨48≤(c.toNat:Int)∧(c.toNat:Int)≤57∨(c.toNat:Int)=45)
def bV (l:List UInt8):Bool:=decide (1≤l.length) && decide (l.length≤20) && l.all dw
def dy (l:List UInt8):Int:=if bV l=true then 0 else 1
theorem jl {l:List UInt8} (h:bV l=true):dy l=0:=if_pos h
theorem iq {l:List UInt8} (h:bV l=false):dy l=1:=if_neg (by rw[h];decide)
theorem pi {l:List UInt8} (h:l.length<1):bV l=false:=by simp[bV];omega
theorem pj {l:List UInt8} (h:20<l.length):bV l=false:=by simp[bV];omega
theorem pk {l:List UInt8} {k:Nat} (a:k<l.length) (h:dw l[k]=false):bV l=false:=by
 have:l.all dw=false:=by
  rw[List.all_eq_false];exact⟨l[k],List.getElem_mem a,by simp[h]⟩
 simp[bV,this]
theorem pn {l:List UInt8} (a: ¬l.length<1) (d: ¬20<l.length) (h:l.all dw=true):bV l=true:=by
 simp only[bV,h,Bool.and_true,Bool.and_eq_true,decide_eq_true_eq];omega
theorem po {l:List UInt8} {f:UInt8→Bool} {k:Nat} (d:k<l.length) (h:(l.take k).all f=true) (a:f l[k]=true):(l.take (k+1)).all f=true:=by
 rw[List.take_succ_eq_append_getElem d,List.all_append,h];simp[a]
theorem tK {c:UInt8} (h:97≤(c.toNat:Int)∧(c.toNat:Int)≤122∨65≤(c.toNat:Int)∧(c.toNat:Int)≤90∨48≤(c.toNat:Int)∧(c.toNat:Int)≤57):true=dw c:=by
 rw[dw,eq_comm,decide_eq_true_eq];omega
theorem tL {c:UInt8} (h: ¬(97≤(c.toNat:Int)∧(c.toNat:Int)≤122∨65≤(c.toNat:Int)∧(c.toNat:Int)≤90∨48≤(c.toNat:Int)∧(c.toNat:Int)≤57)):((c.toNat:Int)==45)=dw c:=by
 rw[dw,Bool.eq_iff_iff,beq_iff_eq,decide_eq_true_eq];omega
theorem pp (c:UInt8) (w:World):
    Calls prog 165 #[.int .u8 (c.toNat:Int)] w fun e w'=>e= .returned (.bool (dw c))∧w'=w:=by
 go_enter func165,ntmps165
 go_wp2
 all_goals go_ret
 all_goals first
  |exact⟨ph (tK (by omega)),rfl⟩
  |exact⟨ph (tL (by omega)),rfl⟩
theorem jm (s:ByteArray) (w:World) (F:s.size≤maxLen):
    Calls prog 133 #[.string s] w fun e w'=>e= .returned (.int .i64 (dy s.data.toList))∧w'=w:=by
 unfold maxLen at F;have y:s.data.toList.length=s.size:=Array.length_toList;by_cases G:(s.size:Int)<1
 · rw[iq (pi (by omega))]
   go_enter func133,ntmps133
   go_wp2_with fail;go_ret;exact⟨rfl,rfl⟩
 by_cases H:20<(s.size:Int)
 · rw[iq (pj (by omega))]
   go_enter func133,ntmps133
   go_wp2_with fail;go_ret;exact⟨rfl,rfl⟩
 have j:Hid (s.data.toList.length=s.size):=y;have E:Hid (s.data.toList.all dw=true→dy s.data.toList=0):=fun h=>jl (pn (by omega) (by omega) h)
 clear y;go_enter func133,ntmps133
 go_wp2_with fail;go_loop [14] (fun i=> ∃k:Nat,k≤s.size∧i= .int .i64 k∧(s.data.toList.take k).all dw=true) (fun i=>s.size-(intOf i).toNat)
 case atStart=>exact⟨0,Nat.zero_le _,rfl,by simp⟩
 case round=>
  obtain⟨k,I,rfl,a⟩:=hrel
  have o:Hid ((s.data.toList.take k).all dw=true):=a;clear a;by_cases d:k<s.size
  · cases u:dw s[k]with
    |true=>
     have A:Hid ((s.data.toList.take (k+1)).all dw=true):=po (by rw[j.out];exact d) o.out u;go_wp2_with (go_at_call 165;refine(pp _ _).mono ?_;rintro e w' ⟨rfl,rfl⟩)
     go_round
     case rel=>exact⟨k+1,by omega,by go_num,A.out⟩
     case measure=>simp[intOf];omega
    |false=>
     have z:Hid (dy s.data.toList=1):=iq (pk (by rw[j.out];exact d) u);go_wp2_with (go_at_call 165;refine(pp _ _).mono ?_;rintro e w' ⟨rfl,rfl⟩)
     go_ret;exact⟨by rw[z.out];rfl,rfl⟩
  · have f:Hid (dy s.data.toList=0):=E.out (by have:=o.out;rwa [List.take_of_length_le (by rw[j.out];omega)]at this)
    go_wp2_with fail;go_ret;exact⟨by rw[f.out];rfl,rfl⟩
theorem jR (s:ByteArray) (w:World) (P:s.size≤maxLen):
    Calls prog 34 #[.string s] w fun e w'=>e= .returned (.bool (bV s.data.toList))∧w'=w:=by
 unfold maxLen at P;have N:s.data.toList.length=s.size:=Array.length_toList;have f:Hid (s.data.toList.length=s.size):=N;clear N;go_enter func34,ntmps34
 go_wp2_with fail;go_loop [3] (fun i=> ∃k:Nat,k≤s.size∧i= .int .i64 k∧(s.data.toList.take k).all dw=true) (fun i=>s.size-(intOf i).toNat)
 case atStart=>exact⟨0,Nat.zero_le _,rfl,by simp⟩
 case round=>
  obtain⟨k,U,rfl,d⟩:=hrel
  have G:Hid ((s.data.toList.take k).all dw=true):=d;clear d;by_cases o:k<s.size
  · cases z:dw s[k]with
    |true=>
     have y:Hid ((s.data.toList.take (k+1)).all dw=true):=po (by rw[f.out];exact o) G.out z;have j:=of_decide_eq_true z;rcases j with⟨F,M⟩|⟨F,M⟩|⟨F,M⟩|F
     · go_wp2_with fail
       go_round
       case rel=>exact⟨k+1,by omega,by go_num,y.out⟩
       case measure=>simp[intOf];omega
     · have E: ¬97≤(s[k].toNat:Int):=by omega
       go_wp2_with fail;go_round
       case rel=>exact⟨k+1,by omega,by go_num,y.out⟩
       case measure=>simp[intOf];omega
     · have E: ¬97≤(s[k].toNat:Int):=by omega
       have H: ¬65≤(s[k].toNat:Int):=by omega
       go_wp2_with fail;go_round
       case rel=>exact⟨k+1,by omega,by go_num,y.out⟩
       case measure=>simp[intOf];omega
     · have E: ¬97≤(s[k].toNat:Int):=by omega
       have H: ¬65≤(s[k].toNat:Int):=by omega
       have I: ¬48≤(s[k].toNat:Int):=by omega
       go_wp2_with fail;go_round
       case rel=>exact⟨k+1,by omega,by go_num,y.out⟩
       case measure=>simp[intOf];omega
    |false=>
     have u:Hid (bV s.data.toList=false):=pk (by rw[f.out];exact o) z;have j:=of_decide_eq_false z;have T:((s[k].toNat:Int)==45)=false:=by simp;omega
     by_cases E:97≤(s[k].toNat:Int)
     · have H: ¬(s[k].toNat:Int)≤122:=by omega
       have I:65≤(s[k].toNat:Int):=by omega
       have O: ¬(s[k].toNat:Int)≤90:=by omega
       have J:48≤(s[k].toNat:Int):=by omega
       have K: ¬(s[k].toNat:Int)≤57:=by omega
       clear j;go_wp2_with fail;go_ret;exact⟨by rw[u.out];rfl,rfl⟩
     by_cases I:65≤(s[k].toNat:Int)
     · have O: ¬(s[k].toNat:Int)≤90:=by omega
       have J:48≤(s[k].toNat:Int):=by omega
       have K: ¬(s[k].toNat:Int)≤57:=by omega
       clear j;go_wp2_with fail;go_ret;exact⟨by rw[u.out];rfl,rfl⟩
     by_cases J:48≤(s[k].toNat:Int)
     · have K: ¬(s[k].toNat:Int)≤57:=by omega
       clear j;go_wp2_with fail;go_ret;exact⟨by rw[u.out];rfl,rfl⟩
     · clear j
       go_wp2_with fail;go_ret;exact⟨by rw[u.out];rfl,rfl⟩
  · have A:=hid (show s.data.toList.all dw=true from by have:=G.out;rwa [List.take_of_length_le (by rw[f.out];omega)]at this)
    by_cases Q:1≤(s.size:Int)
    · by_cases S:(s.size:Int)≤20
      · have a:Hid (bV s.data.toList=true):=pn (by rw[f.out];omega) (by rw[f.out];omega) A.out
        go_wp2_with fail;go_ret;exact⟨by rw[a.out];rfl,rfl⟩
      · have a:Hid (bV s.data.toList=false):=pj (by rw[f.out];omega)
        go_wp2_with fail;go_ret;exact⟨by rw[a.out];rfl,rfl⟩
    · have a:Hid (bV s.data.toList=false):=pi (by rw[f.out];omega)
      go_wp2_with fail;go_ret;exact⟨by rw[a.out];rfl,rfl⟩
theorem jS: ∀a:List UInt8,Lib.compareBytes a a=0
 |[]=>rfl
 |a::r=>by simp[Lib.compareBytes,jS r]
theorem iL: ∀a b:List UInt8,Lib.compareBytes b a= -Lib.compareBytes a b
 |[],[]=>rfl
 |[],_::_=>rfl
 |_::_,[]=>rfl
 |a::r,b::s=>by
  rw[Lib.compareBytes,Lib.compareBytes];by_cases d:a<b
  · have e: ¬b<a:=fun h=>by rw[UInt8.lt_iff_toNat_lt]at h d;omega
    simp[d,e]
  · by_cases e:b<a
    · simp[d,e]
    · simp[d,e,iL r s]
theorem iM: ∀a b:List UInt8,Lib.compareBytes a b=0→a=b
 |[],[],_=>rfl
 |[],_::_,h=>by simp[Lib.compareBytes]at h
 |_::_,[],h=>by simp[Lib.compareBytes]at h
 |a::r,b::s,h=>by
  rw[Lib.compareBytes]at h;by_cases d:a<b
  · simp[d]at h
  · by_cases f:b<a
    · simp[d,f]at h
    · simp only[d,f,if_false]at h
      have e:a=b:=UInt8.toNat_inj.1 (by rw[UInt8.lt_iff_toNat_lt]at d f;omega);rw[e,iM r s h]
theorem jT: ∀a b c:List UInt8,Lib.compareBytes a b<0→Lib.compareBytes b c<0→Lib.compareBytes a c<0
 |[],[],_,h,_=>by simp[Lib.compareBytes]at h
 |_,_::_,[],_,h=>by simp[Lib.compareBytes]at h
 |_::_,[],_,h,_=>by simp[Lib.compareBytes]at h
 |[],_::_,_::_,_,_=>by simp[Lib.compareBytes]
 |a::r,b::s,c::t,h1,h2=>by
  rw[Lib.compareBytes]at h1 h2⊢;simp only[UInt8.lt_iff_toNat_lt]at*;by_cases aD:a.toNat<b.toNat
  · by_cases d:b.toNat<c.toNat
    · rw[if_pos (by omega)];omega
    · by_cases e:c.toNat<b.toNat
      · rw[if_neg d,if_pos e]at h2;omega
      · rw[if_pos (by omega)];omega
  · by_cases f:b.toNat<a.toNat
    · rw[if_neg aD,if_pos f]at h1;omega
    · rw[if_neg aD,if_neg f]at h1
      by_cases d:b.toNat<c.toNat
      · rw[if_pos (by omega)];omega
      · by_cases e:c.toNat<b.toNat
        · rw[if_neg d,if_pos e]at h2;omega
        · rw[if_neg d,if_neg e]at h2
          rw[if_neg (by omega),if_neg (by omega)];exact jT r s t h1 h2
theorem jU: ∀a b:List UInt8,Op.bytesLess a b=decide (Lib.compareBytes a b<0)
 |[],[]=>by simp[Op.bytesLess,Lib.compareBytes]
 |[],_::_=>by simp[Op.bytesLess,Lib.compareBytes]
 |_::_,[]=>by simp[Op.bytesLess,Lib.compareBytes]
 |a::r,b::s=>by
  have ih:=jU r s;rw[Lib.compareBytes];by_cases d:a<b
  · simp[Op.bytesLess,d]
  · by_cases f:b<a
    · simp[Op.bytesLess,d,f];try (intro e;subst e;exact absurd f (by simp))
    · have e:a=b:=UInt8.toNat_inj.1 (by rw[UInt8.lt_iff_toNat_lt]at d f;omega)
      subst e;simp[Op.bytesLess,ih]
def Pp.cfE (x y:En):Int:=Lib.compareBytes x.path.data.toList y.path.data.toList
theorem fK (x y:En):Pp.lt x y=decide (Pp.cfE x y<0):=by rw[Pp.lt,jU,Lib.toList_data,Lib.toList_data];rfl
theorem ft (x:En):Pp.lt x x=false:=by rw[fK,Pp.cfE,jS];rfl
theorem fu (x y z:En) (a:Pp.lt x y=true) (d:Pp.lt y z=true):Pp.lt x z=true:=by
 rw[fK]at*;simp only[decide_eq_true_eq]at*;exact jT _ _ _ a d
theorem tM (x y z:En) (a:Pp.lt x y=false) (d:Pp.lt y z=false):Pp.lt x z=false:=by
 rw[fK,decide_eq_false_iff_not]at a d⊢;unfold Pp.cfE at a d⊢;intro h;have f:=iL x.path.data.toList y.path.data.toList;have j:=iL y.path.data.toList z.path.data.toList;by_cases ay:Lib.compareBytes x.path.data.toList y.path.data.toList=0
 · rw[iM _ _ ay]at h;exact d h
 · by_cases e:Lib.compareBytes y.path.data.toList z.path.data.toList=0
   · rw[←iM _ _ e]at h;exact a h
   · have:=jT _ _ _ (show Lib.compareBytes z.path.data.toList y.path.data.toList<0 by omega) (show Lib.compareBytes y.path.data.toList x.path.data.toList<0 by omega)
     have o:=iL x.path.data.toList z.path.data.toList;omega
theorem jq {x y:En} (a:Pp.lt x y=false) (d:Pp.lt y x=false):x.path.data.toList=y.path.data.toList:=by
 rw[fK,decide_eq_false_iff_not]at a d;unfold Pp.cfE at a d;have e:=iL x.path.data.toList y.path.data.toList;exact iM _ _ (by omega)
theorem mB: ∀{a b:List En},a.Perm b→a.Pairwise (fun x y=>Pp.lt x y=true)→b.Pairwise (fun x y=>Pp.lt x y=true)→a=b
 |[],b,h,_,_=>by rw[List.nil_perm]at h;exact h.symm
 |x::r,b,h,h1,h2=>by
  cases b with
  |nil=>exact absurd h.length_eq (by simp)
  |cons y s=>
   have e:x=y:=by
    have d:x∈y::s:=h.subset (List.mem_cons_self ..);have f:y∈x::r:=h.symm.subset (List.mem_cons_self ..);rcases List.mem_cons.1 d with e|d
    · exact e
    · rcases List.mem_cons.1 f with e|f
      · exact e.symm
      · have j:=(List.pairwise_cons.1 h1).1 y f
        have o:=(List.pairwise_cons.1 h2).1 x d;have:=fu x y x j o
        rw[ft]at this;cases this
   subst e;rw[mB (List.perm_cons x|>.1 h) (List.pairwise_cons.1 h1).2 (List.pairwise_cons.1 h2).2]
theorem mC: ∀(L:List En),cW L=true↔L.Pairwise (fun x y=>Pp.lt x y=true)
 |[]=>by simp[cW]
 |[_]=>by simp[cW]
 |a::b::r=>by
  rw[cW,Bool.and_eq_true,mC (b::r)];constructor
  · rintro ⟨e,f⟩
    refine List.pairwise_cons.2 ⟨fun x d=>?_,f⟩
    rcases List.mem_cons.1 d with rfl|d
    · exact e
    · exact fu a b x e ((List.pairwise_cons.1 f).1 x d)
  · intro h
    have h:=List.pairwise_cons.1 h;exact⟨h.1 b (by simp),h.2⟩
def br (x:En):List En→List En
 |[]=>[x]
 |y::r=>if Pp.lt y x=true then y::br x r else x::y::r
theorem ir (x:En): ∀L:List En,(br x L).Perm (x::L)
 |[]=>List.Perm.refl _
 |y::r=>by
  rw[br];split
  · exact((ir x r).cons y).trans (List.Perm.swap x y r)
  · exact List.Perm.refl _
theorem kO (x:En): ∀{L:List En},L.Pairwise (fun x y=>Pp.lt x y=true)→(∀y∈L,y.path.data.toList≠x.path.data.toList)→(br x L).Pairwise (fun x y=>Pp.lt x y=true)
 |[],_,_=>by simp[br]
 |y::r,h,hne=>by
  rw[br];split
  · rename_i f
    rw[List.pairwise_cons];refine⟨fun z a=>?_,kO x (List.pairwise_cons.1 h).2 fun z a=>hne z (List.mem_cons_of_mem _ a)⟩
    rcases List.mem_cons.1 ((ir x r).subset a)with rfl|a
    · exact f
    · exact(List.pairwise_cons.1 h).1 z a
  · rename_i f
    have j:Pp.lt y x=false:=by simpa using f
    have d:Pp.lt x y=true:=by
     cases e:Pp.lt x y with
     |true=>rfl
     |false=>exact absurd (jq j e) (hne y (by simp))
    rw[List.pairwise_cons];refine⟨fun z a=>?_,h⟩
    rcases List.mem_cons.1 a with rfl|a
    · exact d
    · exact fu x y z d ((List.pairwise_cons.1 h).1 z a)
theorem tN {x:En} {L M:List En} (F:M.Perm (L++[x])) (E:M.Pairwise (fun a b=>Pp.lt b a=false)) (A:L.Pairwise (fun x y=>Pp.lt x y=true)) (u: ∀y∈L,y.path.data.toList≠x.path.data.toList):M=br x L:=by
 have z:=kO x A u;have d:M.Perm (br x L):=F.trans ((List.perm_append_singleton x L).trans (ir x L).symm);refine mB d ?_ z
 have o:(br x L).Pairwise (fun a b=>a.path.data.toList≠b.path.data.toList):=z.imp fun {a b} h e=>by
  have:Pp.lt a b=Pp.lt a a:=by rw[fK,fK];unfold Pp.cfE;rw[←e]
  rw[this,ft]at h;cases h
 have j:M.Pairwise (fun a b=>a.path.data.toList≠b.path.data.toList):=d.symm.pairwise o (fun h e=>h e.symm);have f:=E.and j;refine f.imp fun {a b} h=>?_
 cases e:Pp.lt a b with
 |true=>rfl
 |false=>exact absurd (jq e h.1) h.2
structure ar where
 k:Int
 p:ByteArray
 q:ByteArray
 t:ByteArray
 b:Int
def aC (c:ar):Int:=
 if c.k<1∨4<c.k then 7 else if¬al c.p.data.toList=0 then al c.p.data.toList
 else if c.k=3∧ ¬al c.q.data.toList=0 then al c.q.data.toList
 else if(¬c.k=3∧ ¬c.q.data.toList=[])∨(¬c.k=2∧ ¬c.t.data.toList=[])then 1
 else if 300<c.t.size then 2 else if c.b< -1∨1000000<c.b then 3 else 0
def Pp.goal (c:ar):List UInt8:=if c.k=3 then c.q.data.toList else c.p.data.toList
def be (L:List En) (c:ar):Int:=
 if¬aB L (ax (Pp.goal c))=0 then aB L (ax (Pp.goal c))else match L.find? (aE c.p.data.toList)with
 |none=>if c.k=3∨c.k=4 then 5 else 0
 |some x=>if c.k=1 then 6 else if c.k=2 then(if x.folder=true then 4 else 0)
  else if c.k=3 then(if aI c.q.data.toList c.p.data.toList=true then 3 else if(L.find? (aE c.q.data.toList)).isSome=true then 6 else 0)else 0
def aK (q:List UInt8) (e:En):Bool:=aI e.path.data.toList q
def b9 (q:List UInt8) (b:Int) (e:En):Bool:=decide (b<e.ver) && aK q e
def cO (L:List En) (c:ar):Bool:= !(c.b== -1) && L.any (b9 c.p.data.toList c.b)
def Pp.newE (c:ar) (n:Int):En:=⟨c.p,decide (c.k=1),c.t,n⟩
def bI (x:En) (L:List En):List En:=L.filter (fun e=> !aE x.path.data.toList e)
def bQ (L:List En) (c:ar):List En:=L.filter (fun e=> !aK c.p.data.toList e)
def bv (c:ar) (e:En):List UInt8:=bm e.path.data.toList c.p.data.toList c.q.data.toList
def aX (c:ar) (n:Int) (e:En):En:=⟨⟨(bv c e).toArray⟩,e.folder,e.text,if e.path.data.toList=c.p.data.toList then n else e.ver⟩
def ct (L:List En) (c:ar):List En:=L.filter (aK c.p.data.toList)
def dO (L:List En) (c:ar) (n:Int):List En:=(ct L c).map (aX c n)
def dP (ms K:List En):List En:=ms.foldl (fun a x=>br x a) K
def et (L:List En) (c:ar) (n:Int):Int:=
 if c.k=1∨c.k=2 then(if 60<(bI (Pp.newE c n) L).length+1 then 2 else 0)
 else if c.k=3 then(if(ct L c).any (fun e=>Pp.big (bv c e))=true then 2 else 0)else 0
def bN (L:List En) (c:ar) (n:Int):List En:=
 if c.k=1∨c.k=2 then br (Pp.newE c n) (bI (Pp.newE c n) L)
 else if c.k=3 then dP (dO L c n) (bQ L c)else bQ L c
def bn (L:List En) (c:ar) (n:Int):Int:=
 if¬aM n=0 then aM n else if¬aC c=0 then aC c else if¬be L c=0 then be L c else if cO L c=true then 8 else et L c n
theorem jr: ∀(d K:List En),(dP d K).Perm (K++d)
 |[],K=>by simp[dP]
 |x::r,K=>by
  have h:=jr r (br x K);refine(show dP (x::r) K=dP r (br x K)from rfl)▸h.trans ?_
  refine((ir x K).append_right r).trans ?_
  exact(List.perm_middle (l₁:=K) (a:=x) (l₂:=r)).symm
def eV (a b:En):Prop:=a.path.data.toList≠b.path.data.toList
theorem pq {a b:En} (h:eV a b):eV b a:=fun e=>h e.symm
theorem jV {a b:En} (h:Pp.lt a b=true):eV a b:=fun e=>by
 have:Pp.lt a b=Pp.lt a a:=by rw[fK,fK];unfold Pp.cfE;rw[←e]
 rw[this,ft]at h;cases h
theorem kP: ∀(e:List En) {K:List En},K.Pairwise (fun x y=>Pp.lt x y=true)→(K++e).Pairwise eV→(dP e K).Pairwise (fun x y=>Pp.lt x y=true)
 |[],K,h,_=>h
 |x::r,K,h,hd=>by
  have d:=List.pairwise_append.1 hd;refine kP r (K:=br x K) (kO x h fun y j=>d.2.2 y j x (by simp)) ?_
  have f:(K++x::r).Perm (br x K++r):=(List.perm_middle (l₁:=K) (a:=x) (l₂:=r)).trans ((ir x K).symm.append_right r);exact f.pairwise hd (fun h=>pq h)
theorem tO {d K M:List En} (o:M.Perm (K++d)) (z:M.Pairwise (fun a b=>Pp.lt b a=false)) (u:K.Pairwise (fun x y=>Pp.lt x y=true)) (j:(K++d).Pairwise eV):M=dP d K:=by
 refine mB (o.trans (jr d K).symm) ?_ (kP d u j)
 have f:M.Pairwise eV:=o.symm.pairwise j (fun h=>pq h);refine(z.and f).imp fun {a b} h=>?_
 cases e:Pp.lt a b with
 |true=>rfl
 |false=>exact absurd (jq e h.1) h.2
theorem jW {l:List UInt8} (h:47∈l): ∃a b,47∉b∧l=a++47::b:=by
 obtain⟨a,b,d,e⟩:=mo l.reverse 47 (by simpa using h)
 refine⟨b.reverse,a.reverse,by simpa using d,?_⟩
 have:=congrArg List.reverse e
 simpa using this
structure Pp.Good (L:List En):Prop where
 len:L.length≤60
 ents: ∀e∈L,bi e=0
 rise:L.Pairwise (fun x y=>Pp.lt x y=true)
 pars: ∀e∈L,aB L (ax e.path.data.toList)=0
theorem tP {L:List En} (h: ∀e∈L,bi e=0):bH L=0:=by
 induction L with
 |nil=>rfl
 |cons a r ih=>rw[bH,if_pos (h a (by simp))];exact ih fun e d=>h e (by simp[d])
theorem gx (L:List En):aA L=0↔Pp.Good L:=by
 constructor
 · intro h
   have f: ¬60<L.length:=by
    intro E;rw[aA,if_pos E]at h;cases h
   have j:bH L=0:=by
    by_cases a:bH L=0
    · exact a
    · rw[aA,if_neg f,if_neg a]at h;exact h
   rw[aA,if_neg f,if_pos j]at h
   have o:cW L=true:=by
    cases d:cW L with
    |true=>rfl
    |false=>rw[if_neg (by rw[d];decide)]at h;cases h
   rw[if_pos o,dC]at h
   have u:L.any (fun e=>aW L e==5)=false:=by
    cases d:L.any (fun e=>aW L e==5)with
    |false=>rfl
    |true=>rw[if_pos d]at h;cases h
   rw[if_neg (by rw[u];decide)]at h
   have A:L.any (fun e=>aW L e==4)=false:=by
    cases d:L.any (fun e=>aW L e==4)with
    |false=>rfl
    |true=>rw[if_pos d]at h;cases h
   refine⟨by omega,pf j,(mC L).1 o,fun e a=>?_⟩
   have z: ¬aW L e=5:=fun x=>by
    have:=List.any_eq_false.1 u e a;simp[x]at this
   have y: ¬aW L e=4:=fun x=>by
    have:=List.any_eq_false.1 A e a;simp[x]at this
   rcases mA L (ax e.path.data.toList)with h|h|h
   · exact h
   · exact absurd h y
   · exact absurd h z
 · intro h
   have G:L.any (fun e=>aW L e==5)=false:=List.any_eq_false.2 fun e a=>by
    have:=h.pars e a;rw[aW,this];decide
   have F:L.any (fun e=>aW L e==4)=false:=List.any_eq_false.2 fun e a=>by
    have:=h.pars e a;rw[aW,this];decide
   rw[aA,if_neg (by have:=h.len;omega),if_pos (tP h.ents),if_pos ((mC L).2 h.rise),dC,if_neg (by rw[G];decide),if_neg (by rw[F];decide)]
theorem jX {L:List En} {p:List UInt8} (h:aB L p=0) (e:p≠[]): ∃x,x∈L∧x.path.data.toList=p∧x.folder=true∧L.find? (aE p)=some x:=by
 rw[aB,if_neg e]at h;cases a:L.find? (aE p)with
 |none=>rw[a]at h;cases h
 |some x=>
  rw[a]at h;have d:=List.find?_some a;refine⟨x,List.mem_of_find?_eq_some a,by simpa[aE]using d,?_,rfl⟩
  cases f:x.folder with
  |true=>rfl
  |false=>simp[f]at h
theorem pu {L:List En} (z:L.Pairwise (fun x y=>Pp.lt x y=true)) {x:En} (u:x∈L):L.find? (aE x.path.data.toList)=some x:=by
 have a:L.Pairwise eV:=z.imp fun h=>jV h
 cases d:L.find? (aE x.path.data.toList)with
 |none=>have:=List.find?_eq_none.1 d x u;simp[aE]at this
 |some y=>
  have e:y.path.data.toList=x.path.data.toList:=by have:=List.find?_some d;simpa[aE]using this
  have A:=List.mem_of_find?_eq_some d;obtain⟨i,f,rfl⟩:=List.getElem_of_mem u
  obtain⟨j,o,rfl⟩:=List.getElem_of_mem A
  rw[List.pairwise_iff_getElem]at a;rcases Nat.lt_trichotomy i j with h|h|h
  · exact absurd e.symm (a i j f o h)
  · subst h;rfl
  · exact absurd e (a j i o f h)
theorem kQ {l:List UInt8} (h:al l=0):l≠[]:=by
 intro e;subst e;exact absurd h (by decide)
theorem tQ {L:List En} (K: ∀e∈L,aB L (ax e.path.data.toList)=0) {q:List UInt8} (M:q≠[]): ∀(n:Nat) (e:En),e∈L→e.path.data.toList.length≤n→aI e.path.data.toList q=true→ ∃x∈L,x.path.data.toList=q:=by
 intro n;induction n with
 |zero=>
  intro e o z y;rcases(dN _ _).1 y with h|⟨r,h⟩
  · exact⟨e,o,h⟩
  · rw[h]at z;simp at z
 |succ n ih=>
  intro e o z y;rcases(dN _ _).1 y with h|⟨r,h⟩
  · exact⟨e,o,h⟩
  · obtain⟨a,b,hb,u⟩:=jW (l:=e.path.data.toList) (by rw[h];simp)
    have d:ax e.path.data.toList=a:=by rw[u];exact eG a hb
    have F:=K e o;rw[d]at F
    have f:aI a q=true:=by
     rw[dN];have E:a++47::b=q++47::r:=u.symm.trans h;by_cases G:47∈r
     · obtain⟨H,O,A,I⟩:=jW G
       have:ax (a++47::b)=ax ((q++47::H)++47::O):=by rw[E,I];simp
       rw[eG a hb,eG _ A]at this;exact Or.inr ⟨H,this⟩
     · have:ax (a++47::b)=ax (q++47::r):=by rw[E]
       rw[eG a hb,eG _ G]at this;exact Or.inl this
    have J:a≠[]:=by
     intro aP;rcases(dN _ _).1 f with h|⟨r,h⟩
     · exact M (h.symm.trans aP)
     · rw[aP]at h;simp at h
    obtain⟨x,N,j,_,_⟩:=jX F J
    refine ih x N ?_ (by rw[j];exact f)
    rw[j];have:e.path.data.toList.length=a.length+b.length+1:=by rw[u];simp;omega
    omega
theorem tR {L:List En} (f: ∀e∈L,aB L (ax e.path.data.toList)=0) {q:List UInt8} (j:q≠[]) {e:En} (a:e∈L) (d:aI e.path.data.toList q=true): ∃x∈L,x.path.data.toList=q:=tQ f j _ e a (Nat.le_refl _) d
theorem tS (p:List UInt8):aI p p=true:=(dN p p).2 (Or.inl rfl)
theorem mD {p q:List UInt8} (h:aI p q=true): ∃s,p=q++s:=by
 rcases(dN p q).1 h with h|⟨r,h⟩
 · exact⟨[],by simpa using h⟩
 · exact⟨_,h⟩
theorem tT {p f t:List UInt8} (h:aI p f=true):aI (bm p f t) t=true:=by
 rcases(dN p f).1 h with h|⟨r,h⟩
 · rw[dN,bm,h];simp
 · rw[dN,bm,h];simp
theorem tU {p a f t:List UInt8} (h:aI p f=true) (d:aI a f=true) (e:bm p f t=bm a f t):p=a:=by
 obtain⟨s,rfl⟩:=mD h
 obtain⟨j,rfl⟩:=mD d
 simpa[bm]using e
end Go.Proofs.YtgamnckfmmbjdaaGreatDoor
