/- What journal.checkCommit answers, for every commit. -/
import Derived.Test.YtcmlnelpcjfocaaGreatDoorWYH
import Derived.Test.YtcmlnelpcjfocaaGreatDoorWYG
set_option linter.unusedSimpArgs false
set_option linter.unusedVariables false
namespace Go.Proofs.YtcmlnelpcjfocaaGreatDoor
open Go.RowKit Go.Maps Go.WideMaps Go.Proofs.Tryz
set_option maxHeartbeats 4000000
set_option maxRecDepth 100000
theorem qR (c:Co) (n:Int):((c.nu==n)=false∧cT c n=4)∨(c.nu=n∧1000000<n∧cT c n=3)∨(c.nu=n∧ ¬1000000<n∧eN c.ke.data.toList=1∧cT c n=1)∨
    (c.nu=n∧ ¬1000000<n∧eN c.ke.data.toList=0∧c.ch.length=0∧cT c n=1)∨(c.nu=n∧ ¬1000000<n∧eN c.ke.data.toList=0∧0<c.ch.length∧cT c n=0):=by
 by_cases d:c.nu=n
 · by_cases f:1000000<n
   · exact Or.inr (Or.inl ⟨d,f,by rw[cT,if_neg (fun x=>x d),if_pos f]⟩)
   · cases y:cZ c.ke.data.toList with
     |false=>exact Or.inr (Or.inr (Or.inl ⟨d,f,kG y,by rw[cT,if_neg (fun x=>x d),if_neg f,if_pos (by simp[y])]⟩))
     |true=>
      by_cases z:c.ch=[]
      · exact Or.inr (Or.inr (Or.inr (Or.inl ⟨d,f,ma y,by rw[z];rfl,by rw[cT,if_neg (fun x=>x d),if_neg f,if_neg (fun x=>x y),if_pos z]⟩)))
      · exact Or.inr (Or.inr (Or.inr (Or.inr ⟨d,f,ma y,List.length_pos_iff.2 z,by rw[cT,if_neg (fun x=>x d),if_neg f,if_neg (fun x=>x y),if_neg z]⟩)))
 · exact Or.inl ⟨by simpa using d,by rw[cT,if_pos d]⟩
theorem Bn (c:Co) (u:Value) (n:Int) (w:World) (N:cj w u c.ch) (z:c.ke.size≤maxLen):
    Calls prog 149 #[.agg #[.int .i64 c.nu,.string c.ke,u],.int .i64 n] w fun e w'=>e= .returned (.int .i64 (cT c n))∧Below w.heap.size w w':=by
 obtain⟨a,I,rfl,G,y,_⟩:=N
 have d:Below w.heap.size w (w.alloc (.cells #[.int .i64 c.nu,.string c.ke,.slice a c.ch.length I] 110)):=(Below.refl _ _).alloc (Nat.le_refl _) _;rcases qR c n with⟨f,ae⟩|⟨f,E,ae⟩|⟨f,E,H,ae⟩|⟨f,E,H,J,ae⟩|⟨f,E,H,J,ae⟩
 · have A:=hid ae
   clear ae;go_enter func149,ntmps149
   go_wp2;go_ret;exact⟨by rw[A.out];rfl,d⟩
 · have A:=hid ae
   clear ae;obtain⟨nu,ke,ch⟩:=c
   simp only at f E d z⊢;subst f;go_enter func149,ntmps149
   go_wp2;go_ret;exact⟨by rw[A.out];rfl,d⟩
 all_goals
  have A:=hid ae;have M:=hid H;clear ae H;try (have F:((c.ch.length:Int)==0)=true:=by rw[beq_iff_eq];omega)
  try (have F:((c.ch.length:Int)==0)=false:=by rw[beq_eq_false_iff_ne];omega)
  try clear J
  obtain⟨nu,ke,ch⟩:=c
  simp only at f E d z G y⊢;try simp only at F
  subst f;go_enter func149,ntmps149
  go_wp2_with fail;refine(mc ke _ z).mono ?_
  rintro e O ⟨rfl,K⟩;rw[K,M.out];clear K O;go_wp2;go_ret;exact⟨by rw[A.out];rfl,d⟩
theorem Bo (a b:Int) (s t:ByteArray) (m n:Int) (h:(a==b)=false) (w:World):
    Calls prog 154 #[.agg #[.int .i64 a,.string s,.int .i64 m],.agg #[.int .i64 b,.string t,.int .i64 n]] w fun e w'=>e= .returned (.bool false)∧Below w.heap.size w w':=by
 go_enter func154,ntmps154
 go_wp2;go_ret;exact⟨rfl,((Below.refl _ _).alloc (Nat.le_refl _) _).alloc (by simp) _⟩
theorem Bp (p t:ByteArray) (n:Int) (w:World):
    Calls prog 155 #[.string p,.agg #[.int .i64 2,.string t,.int .i64 n]] w fun e w'=>e= .returned (.agg #[.int .i64 2,.string p,.string ⟨#[]⟩,.string t,.int .i64 (-1)])∧Below w.heap.size w w':=by
 go_enter func155,ntmps155
 go_wp2_with fail;refine bodyPost_ret (v:= .agg #[.int .i64 2,.string p,.string ⟨#[]⟩,.string t,.int .i64 (-1)]) (by simp[results,results155,go_sem]) rfl ⟨rfl,?_⟩
 exact((Below.refl _ _).alloc (Nat.le_refl _) _).alloc (by simp) _
theorem ka {b n:Nat} {w w':World} {D:DataW Unit} {B:Nat} (h:w.ownsMap prog 9 Sp.rd b n D) (E:Below B w w') (hb:b<B):w'.ownsMap prog 9 Sp.rd b n D:=by
 obtain⟨f,d,z,F,A,y⟩:=h
 exact⟨f,d,(E.block b hb).trans z,F,A,y⟩
theorem Tryz.infoChg:(prog.info? 72).map (fun i=>(i.zero,i.size,i.bytes))=some (some (.agg #[.int .i64 0,.string ⟨#[]⟩,.string ⟨#[]⟩,.string ⟨#[]⟩,.int .i64 0]),5,64):=by kernel_rfl
def fW (c:ay):List Value:=[.int .i64 c.k,.string c.p,.string c.q,.string c.t,.int .i64 c.b]
theorem qS (c:ay): ∀u∈fW c,u.oneCell'=true:=by
 intro u d;simp only[fW,List.mem_cons,List.not_mem_nil,or_false]at d;rcases d with rfl|rfl|rfl|rfl|rfl<;>rfl
theorem vh (w:World) (c:ay) (T:TypeId): ∀j u,(fW c)[j]?=some u→(w.alloc (.cells #[.int .i64 c.k,.string c.p,.string c.q,.string c.t,.int .i64 c.b] T)).cell? ((⟨w.heap.size,0,none⟩:Addr).add j)=some u:=by
 intro j u d;match j,d with
 |0,d=>simp[fW]at d;subst d;simp[Addr.add]
 |1,d=>simp[fW]at d;subst d;simp[Addr.add]
 |2,d=>simp[fW]at d;subst d;simp[Addr.add]
 |3,d=>simp[fW]at d;subst d;simp[Addr.add]
 |4,d=>simp[fW]at d;subst d;simp[Addr.add]
 |j+5,d=>simp[fW]at d
def Sp.val (L:List En) (p:List UInt8):Value:=match Sp.at_ L p with|some e=> .agg #[.int .i64 (Sp.wh e),.string (Sp.tx e),.int .i64 e.ver]|none=> .agg #[.int .i64 0,.string ⟨#[]⟩,.int .i64 0]
theorem ny {b n:Nat} {w:World} {L:List En} (h:w.ownsMap prog 9 Sp.rd b n (Sp.D L)) (z:Sp.Apart L) (p:ByteArray) (A:p.size≤maxLen):(Instr.lookup 180 (.map (some b)) (.string p) false).run prog w= .ok (Sp.val L p.data.toList) w:=by
 obtain⟨v,E,d,f⟩:=h.lookup (string_keyed underlying9) underlying180 (Tryz.zeroSpot w) (Sp.rd_mk 0 ⟨#[]⟩ 0) (keyOf_string_mk underlying9 A)
 have e:(Sp.D L).atKey (.string p.data.toList) (kN 0 ⟨#[]⟩ 0)=_:=Sp.D_at z p _;rw[e]at f;rw[Sp.val];cases y:Sp.at_ L p.data.toList with
 |none=>
  rw[y]at f;rw[uY f]at d;exact d
 |some x=>
  rw[y]at f;rw[uY f]at d;exact d
theorem Bq (x:En) (w:World):
    Calls prog 151 #[.agg #[.string x.path,.bool x.folder,.string x.text,.int .i64 x.ver]] w fun e w'=>e= .returned (.agg #[.int .i64 (Sp.wh x),.string (Sp.tx x),.int .i64 x.ver])∧Below w.heap.size w w':=by
 obtain⟨p,f,t,n⟩:=x
 cases f with
 |false=>exact Bi p t n w
 |true=>
  show Calls prog 151 #[.agg #[.string p,.bool true,.string t,.int .i64 n]] w fun e w'=>e= .returned (.agg #[.int .i64 1,.string ⟨#[]⟩,.int .i64 n])∧Below w.heap.size w w'
  go_enter func151,ntmps151
  go_wp2_with fail;refine bodyPost_ret (v:= .agg #[.int .i64 1,.string ⟨#[]⟩,.int .i64 n]) (by simp[results,results151,go_sem]) rfl ⟨rfl,?_⟩
  exact((Below.refl _ _).alloc (Nat.le_refl _) _).alloc (by simp) _
theorem vk (L:List En) (v:Value) (w:World) (hv:an w v L) (hn:L.length≤1000) (hp: ∀e∈L,e.path.size≤maxLen):
    Calls prog 108 #[v] w fun e w'=> ∃b,e= .returned (.map (some b))∧w.heap.size≤b∧w'.ownsMap prog 9 Sp.rd b L.length (Sp.D L)∧Below w.heap.size w w':=by
 obtain⟨a,I9,rfl,I5,X,hL⟩:=hv
 have HL:Hid (∀i (h:i<L.length),∃b o,a=some ⟨b,o,none⟩∧b<w.heap.size∧dp w b (o+i*4) L[i]):=hL;have HP:=hid hp;clear hL hp;have Iv:=Tryz.makeSpots;have HO:=hid (World.ownsMap_made w prog 9 Sp.rd);have G:Below w.heap.size w (w.alloc (.map #[] 0)):=(Below.refl _ _).alloc (Nat.le_refl _) _;go_enter func108,ntmps108
 go_wp2_with fail;go_loopw [11] (fun i wr=> ∃k:Nat,k≤L.length∧i= .int .i64 k∧Below w.heap.size w wr∧w.heap.size<wr.heap.size∧Hid (wr.ownsMap prog 9 Sp.rd w.heap.size k (Sp.D (L.take k)))) (fun i _=>L.length-(intOf i).toNat)
 case atStart=>exact⟨0,Nat.zero_le _,rfl,G,by simp,HO⟩
 case round=>
  obtain⟨k,P,rfl,A,I8,Q⟩:=hrel
  by_cases J:k<L.length
  · obtain⟨b,o,rfl,hb,he⟩:=HL.out k J
    obtain⟨c0,c1,c2,c3⟩:=he.below hb A
    have Z:=HP.out L[k] (List.getElem_mem J);have N:=hid (show Sp.D (L.take (k+1))=Sp.put (Sp.D (L.take k)) L[k]from by rw[List.take_succ_eq_append_getElem J,Sp.D_snoc]);clear he;generalize L[k]=x at*;obtain⟨F,y⟩: ∃F,F=wr.alloc (.cells #[.string x.path,.bool x.folder,.string x.text,.int .i64 x.ver] 107):=⟨_,rfl⟩
    have V:Below wr.heap.size wr F:=by rw[y];exact(Below.refl _ _).alloc (Nat.le_refl _) _
    have z0:F.cell? ⟨wr.heap.size,0,none⟩=some (.string x.path):=by rw[y];simp
    have z1:F.cell? ⟨wr.heap.size,1,none⟩=some (.bool x.folder):=by rw[y];simp
    have z2:F.cell? ⟨wr.heap.size,2,none⟩=some (.string x.text):=by rw[y];simp
    have z3:F.cell? ⟨wr.heap.size,3,none⟩=some (.int .i64 x.ver):=by rw[y];simp
    have z:F.heap.size=wr.heap.size+1:=by rw[y];simp
    have K:=hid (Q.out.alloc (.cells #[.string x.path,.bool x.folder,.string x.text,.int .i64 x.ver] 107));rw[←y]at K;have H:=bn A V;go_wp2_with fail;rw[←y];clear y c0 c1 c2 c3
    go_region_held3 (fun W=>W.cell? ⟨wr.heap.size,0,none⟩=some (.string x.path)∧W.cell? ⟨wr.heap.size,1,none⟩=some (.bool x.folder)∧W.cell? ⟨wr.heap.size,2,none⟩=some (.string x.text)∧W.cell? ⟨wr.heap.size,3,none⟩=some (.int .i64 x.ver)) (go_keep) (first
     |(go_at_call 151;refine(Bq x _).mono ?_;rintro e O ⟨rfl,U⟩;have d:Below F.heap.size F O:=((Below.refl _ _).drew).trans U;have Y:=hid (K.out.kept (row:=none) ⟨d.os,d.tape,d.output,d.size,fun k P _=>d.block k P⟩ (by simp));obtain⟨w6,I0,E,f⟩:=Y.out.update (string_keyed underlying9) underlying180 (by unfold maxLen;omega) (keyOf_string_mk underlying9 Z) (Sp.rd_mk (Sp.wh x) (Sp.tx x) x.ver);have M:=hid E;have j0:=(d.cell (p:=⟨wr.heap.size,0,none⟩) (by simp[z])).trans z0;have j1:=(d.cell (p:=⟨wr.heap.size,1,none⟩) (by simp[z])).trans z1;have j2:=(d.cell (p:=⟨wr.heap.size,2,none⟩) (by simp[z])).trans z2;have j3:=(d.cell (p:=⟨wr.heap.size,3,none⟩) (by simp[z])).trans z3;have I7:=d.size;have aZ:=(f.cell_far ⟨wr.heap.size,0,none⟩ (by show wr.heap.size<O.heap.size;omega) (by simp;omega)).trans j0;have dc:=(f.cell_far ⟨wr.heap.size,1,none⟩ (by show wr.heap.size<O.heap.size;omega) (by simp;omega)).trans j1;have fN:=(f.cell_far ⟨wr.heap.size,2,none⟩ (by show wr.heap.size<O.heap.size;omega) (by simp;omega)).trans j2;have i3:=(f.cell_far ⟨wr.heap.size,3,none⟩ (by show wr.heap.size<O.heap.size;omega) (by simp;omega)).trans j3;clear E))
    have I:Below w.heap.size w w6:=(bn H d).grown f (by omega) (fun k P=>by simp at P;omega);have I6:=f.size;have T:=hid (show w6.ownsMap prog 9 Sp.rd w.heap.size (k+1) (Sp.D (L.take (k+1)))from by rw[N.out];exact M.out);clear M N;go_wp2_with fail;go_roundw
    case rel=>exact⟨k+1,by omega,by simp,I,by omega,T⟩
    case measure=>simp[intOf];omega
  · obtain rfl:k=L.length:=by omega
    have S:=hid (show wr.ownsMap prog 9 Sp.rd w.heap.size L.length (Sp.D L)from by have h:=Q.out;rw[List.take_length]at h;exact h);clear Q;go_wp2_with fail;go_ret;exact⟨_,rfl,Nat.le_refl _,S.out,A⟩
def Br (B:Nat) (w:World) (v:Value) (bk:List ByteArray):Prop:= ∃a cap,v= .slice a bk.length cap∧bk.length≤cap∧ ∀i (h:i<bk.length),∃g,a=some ⟨g,0,none⟩∧B≤g∧g<w.heap.size∧w.cell? ⟨g,i,none⟩=some (.string bk[i])
theorem vn {b n:Nat} {w:World} {L:List En} (h:w.ownsMap prog 9 Sp.rd b n (Sp.D L)) (H:L.Pairwise (fun x y=>Pp.lt x y=true)) (V:L.length≤1000):
    Calls prog 152 #[.map (some b)] w fun e w'=> ∃v,e= .returned v∧Br w.heap.size w' v (L.map (fun e=>e.path))∧Below w.heap.size w w':=by
 have z:=Sp.D_size (jZ H);refine(Tryz.paths_any b n _ Sp.rd w h (by rw[z];unfold maxLen;omega) (by rw[z];omega)).mono fun e w' ⟨v,ss,P,N,d,M,hb⟩=>?_
 have S:ss.length=L.length:=by
  have T:=N.length_eq;have F:=(qO (jZ H)).length_eq;rw[List.length_map]at F;omega
 rw[Bl H N,S]at d;refine⟨v,P,?_,hb⟩
 have f:=d;obtain⟨_,F⟩:=d
 rcases F with⟨J,O⟩|⟨g,E,cur,J,Q,K,G,U,O,I⟩
 · subst J
   have:L=[]:=List.length_eq_zero_iff.1 O
   subst this;exact⟨none,0,rfl,Nat.le_refl _,fun i A=>absurd A (by simp)⟩
 · subst J
   refine⟨some ⟨g,0,none⟩,E,by rw[List.length_map],by rw[List.length_map];exact G,fun i A=>⟨g,rfl,Q,?_,?_⟩⟩
   · rcases Nat.lt_or_ge g w'.heap.size with h|h
     · exact h
     · rw[Array.getElem?_eq_none h]at K;cases K
   · rw[List.length_map]at A
     rw[f.cellAt i (by omega)];simp only[List.map_map,List.getElem?_map,List.getElem?_eq_getElem A,Option.map_some,List.getElem_map,Function.comp]
def ey (L:List En) (p:List UInt8):Int:=match Sp.at_ L p with|some e=>Sp.wh e|none=>0
def iT (L:List En) (p:List UInt8):ByteArray:=match Sp.at_ L p with|some e=>Sp.tx e|none=>⟨#[]⟩
def nz (L:List En) (p:List UInt8):Int:=match Sp.at_ L p with|some e=>e.ver|none=>0
theorem qT (L:List En) (p:List UInt8):Sp.val L p= .agg #[.int .i64 (ey L p),.string (iT L p),.int .i64 (nz L p)]:=by
 rw[Sp.val,ey,iT,nz];cases Sp.at_ L p<;>rfl
theorem oB {L:List En} (h:Sp.Apart L) {e:En} (y:e∈L):Sp.at_ L e.path.data.toList=some e:=by
 induction L with
 |nil=>cases y
 |cons a r ih=>
  rw[Sp.Apart,List.pairwise_cons]at h;rcases List.mem_cons.1 y with rfl|d
  · rw[Sp.at_,List.find?_cons_of_pos (mi.2 rfl)]
  · have f: ¬aO e.path.data.toList a=true:=fun z=>h.1 e d (mi.1 z)
    rw[Sp.at_,List.find?_cons_of_neg f];exact ih h.2 d
theorem vo {L:List En} (h:Sp.Apart L) {e:En} (d:e∈L):ey L e.path.data.toList=Sp.wh e:=by rw[ey,oB h d]
theorem Bs {L:List En} (h:Sp.Apart L) {e:En} (d:e∈L):iT L e.path.data.toList=Sp.tx e:=by rw[iT,oB h d]
def iU (M:List En) (p:List UInt8):Bool:=(aC p==[])||(ey M (aC p)==1)
theorem Bt {M:List En} {p q:List UInt8} {a:Int} (d:aC p=q) (f:ey M q=a):iU M p=((q==[])||(a==1)):=by rw[iU,d,f]
def fF (M:List En) (e:En):Bool:=(Sp.wh e !=ey M e.path.data.toList) && iU M e.path.data.toList
def ml (e:En):ay:=⟨4,e.path,⟨#[]⟩,⟨#[]⟩,-1⟩
def dR (L M:List En):List ay:=(L.filter (fF M)).map ml
def kO (L:List En) (e:En):Bool:= !((Sp.wh e==ey L e.path.data.toList) && ((Sp.tx e).toList==(iT L e.path.data.toList).toList))
def iV (e:En):ay:=if e.folder=true then⟨1,e.path,⟨#[]⟩,⟨#[]⟩,-1⟩else⟨2,e.path,⟨#[]⟩,e.text,-1⟩
def dZ (L M:List En):List ay:=(M.filter (kO L)).map iV
theorem qU {w:World} {B B':Nat} {e:TypeId} {size:Nat} {v:Value} {n:Nat} {xs:List Value} (h:w.ownsRow B e size v n xs) (z:B'≤B):w.ownsRow B' e size v n xs:=by
 obtain⟨y,f⟩:=h
 refine⟨y,?_⟩
 rcases f with f|⟨g,d,cur,E,A,r⟩
 · exact .inl f
 · exact .inr ⟨g,d,cur,E,Nat.le_trans z A,r⟩
theorem _root_.Go.World.ownsRow.kept9 {w w':World} {B:Nat} {e:TypeId} {size:Nat} {v:Value} {n:Nat} {xs:List Value} (h:w.ownsRow B e size v n xs) (G:Below w.heap.size w w'):w'.ownsRow B e size v n xs:=by
 obtain⟨A,f⟩:=h
 refine⟨A,?_⟩
 rcases f with f|⟨g,d,cur,F,E,y,r⟩
 · exact .inl f
 · have z:g<w.heap.size:=by
    rcases Nat.lt_or_ge g w.heap.size with h|h
    · exact h
    · rw[Array.getElem?_eq_none h]at y;cases y
   exact .inr ⟨g,d,cur,F,E,(G.block g z).trans y,r⟩
def fj (l:List ay):List Value:=l.flatMap fW
theorem vp (l:List ay) (c:ay):fj l++fW c=fj (l++[c]):=by simp[fj]
theorem vu {L:List En} {k:Nat} (h:k<L.length) {d:En→Bool} (f:d L[k]=true):(L.take (k+1)).filter d=(L.take k).filter d++[L[k]]:=by
 rw[List.take_succ_eq_append_getElem h,List.filter_append];simp[f]
theorem vv {L:List En} {k:Nat} (h:k<L.length) {d:En→Bool} (f:d L[k]=false):(L.take (k+1)).filter d=(L.take k).filter d:=by
 rw[List.take_succ_eq_append_getElem h,List.filter_append];simp[f]
theorem Tryz.fieldWhat (a:Int) (s:ByteArray) (n:Int) (W:World):(Instr.field 225 (.agg #[.int .i64 a,.string s,.int .i64 n]) 0).run prog W= .ok (.int .i64 a) W:=by
 have h:(Instr.field 225 (.agg #[.int .i64 a,.string s,.int .i64 n]) 0).run prog W= .ok (#[Value.int .i64 a,Value.string s,Value.int .i64 n][0]) W:=by
  simp[Instr.field,run_underlying underlying225,asAgg,part,go_sem]
  try rfl
 exact h
theorem vw (a b:Int) (s t:ByteArray) (m n:Int) (w:World):
    Calls prog 154 #[.agg #[.int .i64 a,.string s,.int .i64 m],.agg #[.int .i64 b,.string t,.int .i64 n]] w fun e w'=>e= .returned (.bool ((a==b) && (s.toList==t.toList)))∧Below w.heap.size w w':=by
 cases h:(a==b)with
 |false=>exact Bo a b s t m n h w
 |true=>
  go_enter func154,ntmps154
  go_wp2;go_ret;exact⟨by simp,((Below.refl _ _).alloc (Nat.le_refl _) _).alloc (by simp) _⟩
theorem Bu (x:En) (w:World):
    Calls prog 155 #[.string x.path,.agg #[.int .i64 (Sp.wh x),.string (Sp.tx x),.int .i64 x.ver]] w fun e w'=>e= .returned (.agg #[.int .i64 (iV x).k,.string (iV x).p,.string (iV x).q,.string (iV x).t,.int .i64 (iV x).b])∧Below w.heap.size w w':=by
 obtain⟨p,f,t,n⟩:=x
 cases f with
 |false=>exact Bp p t n w
 |true=>
  show Calls prog 155 #[.string p,.agg #[.int .i64 1,.string ⟨#[]⟩,.int .i64 n]] w fun e w'=>e= .returned (.agg #[.int .i64 1,.string p,.string ⟨#[]⟩,.string ⟨#[]⟩,.int .i64 (-1)])∧Below w.heap.size w w'
  go_enter func155,ntmps155
  go_wp2_with fail;refine bodyPost_ret (v:= .agg #[.int .i64 1,.string p,.string ⟨#[]⟩,.string ⟨#[]⟩,.int .i64 (-1)]) (by simp[results,results155,go_sem]) rfl ⟨rfl,?_⟩
  exact((Below.refl _ _).alloc (Nat.le_refl _) _).alloc (by simp) _
theorem Bv {c n:Nat} {w:World} {M:List En} (h:w.ownsMap prog 9 Sp.rd c n (Sp.D M)) (K:Sp.Apart M) (p:ByteArray) (T:p.size≤1000000000) (I:az p.data.toList=0) (S:(aC p.data.toList).length≤p.size):
    Calls prog 153 #[.map (some c),.string p] w fun e w'=>e= .returned (.bool (iU M p.data.toList))∧Below w.heap.size w w':=by
 have z:=h.lt
 have H:(⟨(aC p.data.toList).toArray⟩:ByteArray).size≤maxLen:=by
  show(aC p.data.toList).toArray.size≤_
  rw[List.size_toArray];unfold maxLen;omega
 have F:=hid (show∀W,Below w.heap.size w W→(Instr.lookup 180 (.map (some c)) (.string ⟨(aC p.data.toList).toArray⟩) false).run prog W= .ok (.agg #[.int .i64 (ey M (aC p.data.toList)),.string (iT M (aC p.data.toList)),.int .i64 (nz M (aC p.data.toList))]) W from fun W N=>by
  have:=ny (ka h N z) K ⟨(aC p.data.toList).toArray⟩ H
  rw[qT]at this;exact this)
 have J:=hid I;clear h I;have O:=Tryz.fieldWhat;go_enter func153,ntmps153
 go_wp2_with fail;refine(iG p _ (by omega)).mono ?_
 rintro e Q ⟨rfl,d⟩;rw[J.out,gu rfl];have P:=F.out Q d;generalize A:aC p.data.toList=q at*;generalize y:ey M q=a at*;have f:=hid (Bt A y);clear A y;cases E:(q==([]:List UInt8))with
 |true=>
  have G:((⟨q.toArray⟩:ByteArray).toList==(⟨#[]⟩:ByteArray).toList)=true:=by
   have:q=[]:=by simpa using E
   subst this;simp
  go_wp2;go_ret;exact⟨by rw[f.out,E];simp,d⟩
 |false=>
  have G:((⟨q.toArray⟩:ByteArray).toList==(⟨#[]⟩:ByteArray).toList)=false:=by
   rw[Lib.toList_data,Lib.toList_data];simpa using E
  go_wp2;go_ret;exact⟨by rw[f.out,E];simp,d⟩
theorem Bw {b c n m:Nat} {w:World} {L M:List En} (h:w.ownsMap prog 9 Sp.rd b n (Sp.D L)) (ho:w.ownsMap prog 9 Sp.rd c m (Sp.D M)) (hL:L.Pairwise (fun x y=>Pp.lt x y=true)) (hM:Sp.Apart M) (hn:L.length≤1000) (hp: ∀e∈L,e.path.size≤1000000000∧az e.path.data.toList=0∧(aC e.path.data.toList).length≤e.path.size):
    Calls prog 109 #[.map (some b),.map (some c)] w fun e w'=> ∃v,e= .returned v∧w'.ownsRow w.heap.size 72 5 v (dR L M).length (fj (dR L M))∧Below w.heap.size w w':=by
 obtain⟨aZ,IC,ID,IE,IF⟩:=info_parts Tryz.infoChg
 have I7:=h.lt;have P:=ho.lt;have V:=jZ hL;have HB:=hid h
 have Iy:=hid (show∀x∈L,∀W,Below w.heap.size w W→(Instr.lookup 180 (.map (some b)) (.string x.path) false).run prog W= .ok (.agg #[.int .i64 (Sp.wh x),.string (Sp.tx x),.int .i64 x.ver]) W∧(Instr.lookup 180 (.map (some c)) (.string x.path) false).run prog W= .ok (.agg #[.int .i64 (ey M x.path.data.toList),.string (iT M x.path.data.toList),.int .i64 (nz M x.path.data.toList)]) W from fun x hx W hW=>by
  have hs:x.path.size≤maxLen:=by have:=(hp x hx).1;unfold maxLen;omega
  have h1:=ny (ka h hW I7) V x.path hs;have h2:=ny (ka ho hW P) hM x.path hs;rw[Sp.val,oB V hx]at h1;rw[qT]at h2;exact⟨h1,h2⟩)
 have Ix:=hid (show∀x∈L,∀W,Below w.heap.size w W→Calls prog 153 #[.map (some c),.string x.path] W fun e w'=>e= .returned (.bool (iU M x.path.data.toList))∧Below W.heap.size W w' from fun x hx W hW=>Bv (ka ho hW P) hM x.path (hp x hx).1 (hp x hx).2.1 (hp x hx).2.2);have HL:=hid hL;clear h ho hp V hL;have IK:=Tryz.fieldWhat;go_enter func109,ntmps109
 go_wp2_with fail;refine(vn HB.out HL.out hn).mono ?_
 rintro e w1 ⟨v1,rfl,⟨a1,IG,rfl,Z,I⟩,I6⟩;have Iw:=hid I;rw[List.length_map]at Z⊢;have S:=I6.size;clear I;go_wp2_with fail;go_loopw [5,11] (fun x i wr=> ∃k:Nat,k≤L.length∧i= .int .i64 k∧Below w1.heap.size w1 wr∧wr.ownsRow w1.heap.size 72 5 x (dR (L.take k) M).length (fj (dR (L.take k) M))) (fun _ i _=>L.length-(intOf i).toNat)
 case atStart=>exact⟨0,Nat.zero_le _,rfl,Below.refl _ _,World.ownsRow_nil _ _ _ _⟩
 case round=>
  obtain⟨k,hk,rfl,z,A⟩:=hrel
  have H:Below w.heap.size w wr:=I6.trans (z.mono S);by_cases O:k<L.length
  · obtain⟨g,rfl,IL,IB,F⟩:=Iw.out k (by rw[List.length_map];exact O)
    rw[List.getElem_map]at F;have c0:=(z.cell (p:=⟨g,k,none⟩) IB).trans F;have N:L[k]∈L:=List.getElem_mem O;obtain⟨I8,I9⟩:=Iy.out L[k] N wr H
    have T:=hid (Ix.out L[k] N);have G:=hid (show fF M L[k]=true→dR (L.take (k+1)) M=dR (L.take k) M++[ml L[k]]from fun hh=>by rw[dR,vu O hh,List.map_append];rfl);have d:=hid (show fF M L[k]=false→dR (L.take (k+1)) M=dR (L.take k) M from fun hh=>by rw[dR,vv O hh];rfl)
    have IJ:(dR (L.take k) M).length≤1000:=by
     have h1:(dR (L.take k) M).length≤(L.take k).length:=by rw[dR,List.length_map];exact List.length_filter_le _ _
     have h2:=List.length_take_le k L;omega
    have IH:=z.size;have HO:=hid A;clear A F N;generalize L[k]=x at*;generalize dR (L.take k) M=X at*;cases I0:(Sp.wh x !=ey M x.path.data.toList)with
    |false=>
     have HX:=hid (d.out (by rw[fF,I0];rfl));clear G d T;generalize ey M x.path.data.toList=wm at*;generalize Sp.wh x=wx at*;go_wp2_with fail;go_roundw
     case rel=>exact⟨k+1,by omega,by simp,z,by rw[HX.out];exact HO.out⟩
     case measure=>simp[intOf];omega
    |true=>
     cases J:iU M x.path.data.toList with
     |false=>
      have HX:=hid (d.out (by rw[fF,I0,J];rfl));have K:=hid J;clear G d J;generalize ey M x.path.data.toList=wm at*;generalize Sp.wh x=wx at*;go_wp2_with fail;refine(T.out _ H).mono ?_
      rintro e w2 ⟨rfl,E⟩;rw[K.out];have f:=bn z E;have Iz:=hid (HO.out.kept9 E);clear E I8 I9 c0;go_wp2_with fail;go_roundw
      case rel=>exact⟨k+1,by omega,by simp,f,by rw[HX.out];exact Iz.out⟩
      case measure=>simp[intOf];omega
     |true=>
      have HX:=hid (G.out (by rw[fF,I0,J];rfl));have K:=hid J;clear G d J;generalize ey M x.path.data.toList=wm at*;generalize Sp.wh x=wx at*;go_wp2_with fail;refine(T.out _ H).mono ?_
      rintro e w2 ⟨rfl,E⟩;rw[K.out];have f:=bn z E;have U:=HO.out.kept9 E;have II:=f.size;clear E I8 I9 c0;go_wp2_with (at_builtin;refine wpList_append_own _ rfl _ _ 45 rfl w1.heap.size 72 aZ (.agg #[.int .i64 0,.string ⟨#[]⟩,.string ⟨#[]⟩,.string ⟨#[]⟩,.int .i64 0]) 5 64 underlying45 IC ID IE IF rfl (by decide) _ _ _ rfl (U.alloc _) ⟨w2.heap.size,0,none⟩ 1 1 (fW (ml x)) rfl rfl (vh w2 (ml x) _) (qS _) (by unfold maxLen;omega) (by omega) (by simp;omega) ?_)
      intro v5 w5 I5 Q Iv;have Y:Below w1.heap.size w1 w5:=(f.alloc f.size _).grown Q (by simp;omega) (fun q hq=>(U.lt q hq).1);rw[vp]at I5;have IA:=hid (show w5.ownsRow w1.heap.size 72 5 v5 (X++[ml x]).length (fj (X++[ml x]))from by rw[List.length_append];exact I5);clear I5 Q Iv U;go_wp2_with fail;go_roundw
      case rel=>exact⟨k+1,by omega,by simp,Y,by rw[HX.out];exact IA.out⟩
      case measure=>simp[intOf];omega
  · obtain rfl:k=L.length:=by omega
    rw[List.take_length]at A;have HO:=hid (qU A S);clear A;go_wp2_with fail;go_ret;exact⟨_,rfl,HO.out,H⟩
def ju (B:Nat) (w:World) (y:Value) (S:List En):Prop:= ∃a cap,y= .slice a S.length cap∧S.length≤cap∧S.length≤1000000000000000∧ ∀i (h:i<S.length),∃b o,a=some ⟨b,o,none⟩∧b<w.heap.size∧(b<B∨ ∃cur fz,w.heap[b]?=some (.cells cur 107 fz))∧dp w b (o+i*4) S[i]
theorem ju.lies {B:Nat} {w:World} {y:Value} {S:List En} (h:ju B w y S):an w y S:=by
 obtain⟨a,d,f,z,A,E⟩:=h
 exact⟨a,d,f,z,A,fun i F=>by obtain⟨b,o,G,H,_,I⟩:=E i F;exact⟨b,o,G,H,I⟩⟩
theorem ju.at {B:Nat} {w:World} {a:Option Addr} {n cap:Nat} {S:List En} (h:ju B w (.slice a n cap) S): ∀i (h:i<S.length),∃b o,a=some ⟨b,o,none⟩∧dp w b (o+i*4) S[i]:=by
 obtain⟨G,d,y,H,I,z⟩:=h
 intro i A;obtain⟨b,o,E,_,_,F⟩:=z i A
 injection y with f
 exact⟨b,o,f.trans E,F⟩
theorem ju.below {B:Nat} {w w':World} {y:Value} {S:List En} (h:ju B w y S) (f:Below w.heap.size w w'):ju B w' y S:=by
 obtain⟨a,d,E,F,G,H⟩:=h
 refine⟨a,d,E,F,G,fun i J=>?_⟩
 obtain⟨b,o,K,z,N,M⟩:=H i J
 exact⟨b,o,K,Nat.lt_of_lt_of_le z f.size,N.imp id (fun⟨cur,A,I⟩=>⟨cur,A,(f.block b z).trans I⟩),M.below z f⟩
theorem ju.grown {B:Nat} {w w':World} {y x:Value} {S:List En} {n:Nat} {xs:List Value} (h:ju B w y S) (X:w.ownsRow B 72 5 x n xs) (f:w.grownBy w' x.ownBlock):ju B w' y S:=by
 obtain⟨a,E,K,M,N,O⟩:=h
 refine⟨a,E,K,M,N,fun i V=>?_⟩
 obtain⟨b,o,Y,z,J,A⟩:=O i V
 have d:some b≠x.ownBlock:=by
  intro e;obtain⟨_,P⟩:=X
  rcases P with⟨F,_⟩|⟨g,G,cur,F,Z,U,_⟩
  · rw[F]at e;simp[Value.ownBlock]at e
  · rw[F]at e
    have aE:b=g:=by simpa[Value.ownBlock]using e
    subst aE;rcases J with h|⟨H,I,h⟩
    · omega
    · rw[U]at h
      injection h with h
      injection h with _ Q _
      exact absurd Q (by decide)
 exact⟨b,o,Y,Nat.lt_of_lt_of_le z f.size,J.imp id (fun⟨cur,I,T⟩=>⟨cur,I,(f.block b z d).trans T⟩),
  (f.cell_far ⟨b,_,none⟩ z d).trans A.1,(f.cell_far ⟨b,_,none⟩ z d).trans A.2.1,(f.cell_far ⟨b,_,none⟩ z d).trans A.2.2.1,(f.cell_far ⟨b,_,none⟩ z d).trans A.2.2.2⟩
theorem Bx {b c n m:Nat} {w:World} {L M:List En} (h:w.ownsMap prog 9 Sp.rd b n (Sp.D L)) (ho:w.ownsMap prog 9 Sp.rd c m (Sp.D M)) (hM:M.Pairwise (fun x y=>Pp.lt x y=true)) (hL:Sp.Apart L) (hn:M.length≤1000) (hp: ∀e∈M,e.path.size≤1000000000):
    Calls prog 110 #[.map (some b),.map (some c)] w fun e w'=> ∃v,e= .returned v∧w'.ownsRow w.heap.size 72 5 v (dZ L M).length (fj (dZ L M))∧Below w.heap.size w w':=by
 obtain⟨aZ,ID,IE,IF,IG⟩:=info_parts Tryz.infoChg
 have Iw:=h.lt;have Ix:=ho.lt;have Z:=jZ hM;have HC:=hid ho
 have I8:=hid (show∀x∈M,∀W,Below w.heap.size w W→(Instr.lookup 180 (.map (some c)) (.string x.path) false).run prog W= .ok (.agg #[.int .i64 (Sp.wh x),.string (Sp.tx x),.int .i64 x.ver]) W∧(Instr.lookup 180 (.map (some b)) (.string x.path) false).run prog W= .ok (.agg #[.int .i64 (ey L x.path.data.toList),.string (iT L x.path.data.toList),.int .i64 (nz L x.path.data.toList)]) W from fun x hx W hW=>by
  have hs:x.path.size≤maxLen:=by have:=hp x hx;unfold maxLen;omega
  have h1:=ny (ka ho hW Ix) Z x.path hs;have h2:=ny (ka h hW Iw) hL x.path hs;rw[Sp.val,oB Z hx]at h1;rw[qT]at h2;exact⟨h1,h2⟩)
 have HM:=hid hM;clear h ho hp Z hM;have IL:=Tryz.fieldWhat;go_enter func110,ntmps110
 go_wp2_with fail;refine(vn HC.out HM.out hn).mono ?_
 rintro e w1 ⟨v1,rfl,⟨a1,IH,rfl,I6,H⟩,Iv⟩;have Iz:=hid H;rw[List.length_map]at I6⊢;have T:=Iv.size;clear H;go_wp2_with fail;go_loopw [5,11] (fun x i wr=> ∃k:Nat,k≤M.length∧i= .int .i64 k∧Below w1.heap.size w1 wr∧wr.ownsRow w1.heap.size 72 5 x (dZ L (M.take k)).length (fj (dZ L (M.take k)))) (fun _ i _=>M.length-(intOf i).toNat)
 case atStart=>exact⟨0,Nat.zero_le _,rfl,Below.refl _ _,World.ownsRow_nil _ _ _ _⟩
 case round=>
  obtain⟨k,hk,rfl,f,z⟩:=hrel
  have K:Below w.heap.size w wr:=Iv.trans (f.mono T);by_cases Q:k<M.length
  · obtain⟨g,rfl,IM,IC,G⟩:=Iz.out k (by rw[List.length_map];exact Q)
    rw[List.getElem_map]at G;have c0:=(f.cell (p:=⟨g,k,none⟩) IC).trans G;have N:M[k]∈M:=List.getElem_mem Q;obtain⟨O,P⟩:=I8.out M[k] N wr K
    have IA:=hid (I8.out M[k] N);have J:=hid (show kO L M[k]=true→dZ L (M.take (k+1))=dZ L (M.take k)++[iV M[k]]from fun hh=>by rw[dZ,vu Q hh,List.map_append];rfl);have A:=hid (show kO L M[k]=false→dZ L (M.take (k+1))=dZ L (M.take k)from fun hh=>by rw[dZ,vv Q hh];rfl)
    have IK:(dZ L (M.take k)).length≤1000:=by
     have h1:(dZ L (M.take k)).length≤(M.take k).length:=by rw[dZ,List.length_map];exact List.length_filter_le _ _
     have h2:=List.length_take_le k M;omega
    have II:=f.size;have HO:=hid z;clear z G N;generalize M[k]=x at*;generalize dZ L (M.take k)=X at*;cases I:((Sp.wh x==ey L x.path.data.toList) && ((Sp.tx x).toList==(iT L x.path.data.toList).toList))with
    |true=>
     have HX:=hid (A.out (by rw[kO,I];rfl));have U:=hid I;clear J A I;go_wp2_with fail;refine(vw _ _ _ _ _ _ _).mono ?_
     rintro e w2 ⟨rfl,d⟩;rw[U.out];have E:=bn f d;have V:=hid (HO.out.kept9 d);clear d O P c0;go_wp2_with fail;go_roundw
     case rel=>exact⟨k+1,by omega,by simp,E,by rw[HX.out];exact V.out⟩
     case measure=>simp[intOf];omega
    |false=>
     have HX:=hid (J.out (by rw[kO,I];rfl));have U:=hid I;clear J A I;go_wp2_with fail;refine(vw _ _ _ _ _ _ _).mono ?_
     rintro e w2 ⟨rfl,d⟩;rw[U.out];have E:=bn f d;have I9:=bn K d;have V:=hid (HO.out.kept9 d);clear d O P;obtain⟨O,P⟩:=IA.out w2 I9
     go_wp2_with fail;refine(Bu x _).mono ?_
     rintro e w3 ⟨rfl,I0⟩;have F:=bn E I0;have Y:=V.out.kept9 I0;have IJ:=F.size;clear I0 O P c0;go_wp2_with (at_builtin;refine wpList_append_own _ rfl _ _ 45 rfl w1.heap.size 72 aZ (.agg #[.int .i64 0,.string ⟨#[]⟩,.string ⟨#[]⟩,.string ⟨#[]⟩,.int .i64 0]) 5 64 underlying45 ID IE IF IG rfl (by decide) _ _ _ rfl (Y.alloc _) ⟨w3.heap.size,0,none⟩ 1 1 (fW (iV x)) rfl rfl (vh w3 (iV x) _) (qS _) (by unfold maxLen;omega) (by omega) (by simp;omega) ?_)
     intro v5 w5 I7 S Iy;have I5:Below w1.heap.size w1 w5:=(F.alloc F.size _).grown S (by simp;omega) (fun q hq=>(Y.lt q hq).1);rw[vp]at I7;have IB:=hid (show w5.ownsRow w1.heap.size 72 5 v5 (X++[iV x]).length (fj (X++[iV x]))from by rw[List.length_append];exact I7);clear I7 S Iy Y;go_wp2_with fail;go_roundw
     case rel=>exact⟨k+1,by omega,by simp,I5,by rw[HX.out];exact IB.out⟩
     case measure=>simp[intOf];omega
  · obtain rfl:k=M.length:=by omega
    rw[List.take_length]at z;have HO:=hid (qU z T);clear z;go_wp2_with fail;go_ret;exact⟨_,rfl,HO.out,K⟩
def ig (A B:List En):List ay:=if fT A B=0 then dR A B++dZ A B else[]
theorem By (l:List ay): ∀u∈fj l,u.oneCell'=true:=by
 intro u f;obtain⟨s,_,d⟩:=List.mem_flatMap.1 f
 exact qS s u d
theorem Bz (a b:List ay):fj (a++b)=fj a++fj b:=by simp[fj]
theorem BA (A B:List En):(dR A B).length≤A.length:=by rw[dR,List.length_map];exact List.length_filter_le _ _
theorem BB (A B:List En):(dZ A B).length≤B.length:=by rw[dZ,List.length_map];exact List.length_filter_le _ _
theorem BC {p:List UInt8}:(aC p).length≤p.length:=pM p
theorem BD (A B:List En) (va vb:Value) (w:World) (hA:an w va A) (hB:an w vb B) (IH:da A) (II:da B):
    Calls prog 61 #[va,vb] w fun e w'=> ∃u,e= .returned (.tuple #[u,.int .i64 (fT A B)])∧w'.ownsRow w.heap.size 72 5 u (ig A B).length (fj (ig A B))∧Below w.heap.size w w':=by
 obtain⟨aZ,IQ,IR,IS,IT⟩:=info_parts Tryz.infoChg
 have G:=hid hA;have Y:=hid hB;have V:=hid IH;have Iz:=hid II;clear hA hB IH II;by_cases E:aH A=0
 · by_cases hb:aH B=0
   · have I5:fT A B=0:=by rw[fT,if_pos E,hb]
     have IJ:=hid (show ig A B=dR A B++dZ A B from by rw[ig,if_pos I5]);have IK:=hid I5;have F:=(fP A).1 E;have J:=(fP B).1 hb;have I7:=hid F;have I8:=hid J;have IX:=F.len;have IY:=J.len;have IW:=BA A B;have IZ:=BB A B
     have Ix:=hid (show∀e∈A,e.path.size≤1000000000∧az e.path.data.toList=0∧(aC e.path.data.toList).length≤e.path.size from fun e P=>by
      have h1:=kK (gv (F.ents e P));have h2:e.path.data.toList.length=e.path.size:=by rw[Lib.size_eq]
      exact⟨by omega,gv (F.ents e P),by rw[←h2];exact BC⟩)
     have Iy:=hid (show∀e∈B,e.path.size≤1000000000 from fun e P=>by
      have h1:=kK (gv (J.ents e P));have h2:e.path.data.toList.length=e.path.size:=by rw[Lib.size_eq]
      omega)
     have X:=hid E;have IP:=hid hb;clear E hb I5 F J;go_enter func61,ntmps61
     go_wp2_with fail;refine(gL A _ _ G.out V.out).mono ?_
     rintro e w1 ⟨rfl,d⟩;rw[X.out];go_wp2_with fail;refine(gL B _ _ (Y.out.below d) Iz.out).mono ?_
     rintro e w2 ⟨rfl,H⟩;rw[IP.out];have f:=bn d H;clear d H;go_wp2_with fail;refine(vk A _ _ (G.out.below f) (by omega) (fun e P=>by have:=(Ix.out e P).1;unfold maxLen;omega)).mono ?_
     rintro e w3 ⟨b,rfl,IU,ID,IC⟩;have I9:=hid ID;have M:=bn f IC;clear IC ID;go_wp2_with fail;refine(vk B _ _ (Y.out.below M) (by omega) (fun e P=>by have:=Iy.out e P;unfold maxLen;omega)).mono ?_
     rintro e w4 ⟨c,rfl,IV,IE,Z⟩;have U:=hid IE;have z:=hid (ka I9.out Z I9.out.lt);have N:=bn M Z;clear Z IE;go_wp2_with fail;refine(Bw z.out U.out I7.out.rise (jZ I8.out.rise) (by omega) Ix.out).mono ?_
     rintro e w5 ⟨v5,rfl,IF,I⟩;have Iv:=hid (ka z.out I z.out.lt);have Iw:=hid (ka U.out I U.out.lt);have IM:=hid IF;have IA:=bn N I;clear I IF;go_wp2_with fail;refine(Bx Iv.out Iw.out I8.out.rise (jZ I7.out.rise) (by omega) Iy.out).mono ?_
     rintro e w6 ⟨v6,rfl,IG,I0⟩;have K:=hid (IM.out.kept9 I0);have IN:=hid (oz.own IG);have O:=bn IA I0;have T:=O.size;have S:=N.size;clear I0 IG;go_wp2_with (at_builtin;refine Bh rfl _ _ 45 rfl w.heap.size 72 aZ (.agg #[.int .i64 0,.string ⟨#[]⟩,.string ⟨#[]⟩,.string ⟨#[]⟩,.int .i64 0]) 5 64 underlying45 IQ IR IS IT rfl (by decide) v5 (dR A B).length (fj (dR A B)) rfl (qU K.out S) v6 (dZ A B).length (fj (dZ A B)) rfl IN.out (By _) (by unfold maxLen;omega) (by omega) T ?_)
     intro v7 w7 I6 Q;have IB:Below w.heap.size w w7:=O.grown Q T (fun q hq=>Nat.le_trans S (K.out.lt q hq).1);rw[←Bz]at I6;have IL:=hid (show w7.ownsRow w.heap.size 72 5 v7 (ig A B).length (fj (ig A B))from by rw[IJ.out,List.length_append];exact I6);clear I6 Q;go_wp2_with fail;go_ret2;exact⟨_,by rw[IK.out];rfl,IL.out,IB⟩
   · have ae:fT A B=aH B:=by rw[fT,if_pos E]
     have HE:=hid ae;have HL:=hid (show ig A B=[]from by rw[ig,if_neg (by rw[ae];exact hb)]);have X:=hid E;have hz:(aH B==0)=false:=by simpa using hb
     clear E hb ae;go_enter func61,ntmps61
     go_wp2_with fail;refine(gL A _ _ G.out V.out).mono ?_
     rintro e w1 ⟨rfl,d⟩;rw[X.out];go_wp2_with fail;refine(gL B _ _ (Y.out.below d) Iz.out).mono ?_
     rintro e w2 ⟨rfl,H⟩;have f:=bn d H;generalize hy:aH B=y at*;go_wp2_with fail;go_ret2;exact⟨_,by rw[HE.out];rfl,by rw[HL.out];exact World.ownsRow_nil _ _ _ _,f⟩
 · have ae:fT A B=aH A:=by rw[fT,if_neg E]
   have HE:=hid ae;have HL:=hid (show ig A B=[]from by rw[ig,if_neg (by rw[ae];exact E)]);have hz:(aH A==0)=false:=by simpa using E
   clear E ae;go_enter func61,ntmps61
   go_wp2_with fail;refine(gL A _ _ G.out V.out).mono ?_
   rintro e w1 ⟨rfl,d⟩;generalize hy:aH A=y at*;go_wp2_with fail;go_ret2;exact⟨_,by rw[HE.out];rfl,by rw[HL.out];exact World.ownsRow_nil _ _ _ _,d⟩
theorem BE {w:World} {B:Nat} {e:TypeId} {size:Nat} {v:Value} {n:Nat} {xs:List Value} (h:w.ownsRow B e size v n xs): ∃a d,v= .slice a n d:=by
 obtain⟨_,f⟩:=h
 rcases f with⟨rfl,rfl⟩|⟨g,d,cur,rfl,_⟩
 · exact⟨none,0,rfl⟩
 · exact⟨_,_,rfl⟩
def Sp.sameB (A B:List En):Bool:=(fT A B==0) && ((ig A B).length==0)
theorem vx (A B:List En) (T U:Value) (w:World) (Q:an w T A) (S:an w U B) (E:da A) (F:da B):
    Calls prog 29 #[T,U] w fun e w'=>e= .returned (.tuple #[.bool (Sp.sameB A B),.int .i64 (fT A B)])∧Below w.heap.size w w':=by
 have J:=hid Q;have K:=hid S;have H:=hid E;have I:=hid F;clear Q S E F;obtain⟨s,N⟩: ∃s,s=Sp.sameB A B:=⟨_,rfl⟩
 obtain⟨x,d⟩: ∃x,x=fT A B:=⟨_,rfl⟩
 obtain⟨n,y⟩: ∃n,n=(ig A B).length:=⟨_,rfl⟩
 rw[←N,←d];have O:=hid (show s=((x==0) && (n==0))from by rw[N,Sp.sameB,←d,←y]);have M:=hid d;have G:=hid y;clear N d y;go_enter func29,ntmps29
 go_wp2_with fail;refine(BD A B _ _ _ J.out K.out H.out I.out).mono ?_
 rintro e X ⟨u,rfl,z,f⟩;obtain⟨V,P,rfl⟩:=BE z
 rw[←M.out,←G.out];clear z;cases d:(x==0)with
 |false=>
  go_wp2_with fail;go_ret2;exact⟨by rw[O.out,d];rfl,f⟩
 |true=>
  have y:(n==0)=((n:Int)==0):=by
   cases n with
   |zero=>rfl
   |succ n=>simp;omega
  go_wp2_with fail;go_ret2;exact⟨by rw[O.out,d,y];rfl,f⟩
end Go.Proofs.YtcmlnelpcjfocaaGreatDoor
