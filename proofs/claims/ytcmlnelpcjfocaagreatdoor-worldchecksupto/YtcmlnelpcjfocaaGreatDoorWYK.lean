/- Clients: a record that lies in memory; what checkNames, checkAsked and Check answer. -/
import Derived.Test.YtcmlnelpcjfocaaGreatDoorWYG
import Derived.Deep.Cut
import Derived.Deep.RegionHeld3
import Derived.Deep.RegionLaw
import Derived.Deep.DeepCutAuto
import Derived.Deep.DeepMust
set_option linter.unusedSimpArgs false
set_option linter.unusedVariables false
namespace Go.Proofs.YtcmlnelpcjfocaaGreatDoor
open Go.RowKit Go.Proofs.Tryz
set_option maxHeartbeats 4000000
set_option maxRecDepth 100000
structure Cn where
 who:ByteArray
 fo:ByteArray
 base:List En
 cur:Int
 mine:List En
 key:ByteArray
 ask:List ay
 keys:Int
def fU (w:World) (v:Value) (c:Cn):Prop:= ∃vb vm va,v= .agg #[.string c.who,.string c.fo,vb,.int .i64 c.cur,vm,.string c.key,va,.int .i64 c.keys]∧an w vb c.base∧an w vm c.mine∧cj w va c.ask
theorem fU.below {w w':World} {v:Value} {c:Cn} (h:fU w v c) (d:Below w.heap.size w w'):fU w' v c:=by
 obtain⟨E,F,A,e,f,y,z⟩:=h
 exact⟨E,F,A,e,f.below d,y.below d,z.below d⟩
structure iO (c:Cn):Prop where
 who:c.who.size≤150000000000000
 fo:c.fo.size≤150000000000000
 key:c.key.size≤150000000000000
 base:da c.base
 mine:da c.mine
def eu (who fo:ByteArray):Int:=if¬bH [who,fo]=0 then bH [who,fo]else if 10<who.size then 1 else eN who.data.toList
def ew (key:ByteArray) (n:Nat):Int:=if¬key.size=0∧ ¬eN key.data.toList=0 then 1 else if decide (key.size=0)≠decide (n=0)then 4 else if 20<n then 2 else 0
def fV (c:Cn):Bool:=decide (c.cur<0)||decide (1000000<c.cur)||decide (c.keys<0)||decide (1000000<c.keys)
def bo (c:Cn):Int:=if¬eu c.who c.fo=0 then eu c.who c.fo else if¬aH c.base=0 then aH c.base else if¬aH c.mine=0 then aH c.mine else if fV c=true then 3 else ew c.key c.ask.length
theorem AT (who fo:ByteArray) (w:World) (P:who.size≤150000000000000) (O:fo.size≤150000000000000):
    Calls prog 92 #[.string who,.string fo] w fun e w'=>e= .returned (.int .i64 (eu who fo))∧Below w.heap.size w w':=by
 obtain⟨F,y⟩: ∃F,F=w.alloc (.cells #[.string who,.string fo] 9):=⟨_,rfl⟩
 have J:Below w.heap.size w F:=by rw[y];exact(Below.refl _ _).alloc (Nat.le_refl _) _
 have H:=hid (show Cs F w.heap.size [.string who,.string fo]from by rw[y];exact Cs.new _ [.string who,.string fo] _);obtain⟨r,M⟩: ∃r,r=eu who fo:=⟨_,rfl⟩
 rw[←M];have G:=hid M;clear M;go_enter func92,ntmps92
 go_wp2_with fail;rw[←y]
 refine(nt [who,fo] w.heap.size 0 2 F H.out.lt (fun i K=>by
  match i,K with
  |0,_=>show who.size≤_;omega
  |1,_=>show fo.size≤_;omega) (by simp) (fun i K=>by
  match i,K with
  |0,_=>exact H.out.cell 0 rfl
  |1,_=>exact H.out.cell 1 rfl)).mono ?_
 rintro e Q ⟨rfl,I⟩;have d:=ag J I;by_cases f:bH [who,fo]=0
 · by_cases A:10<who.size
   · have z:=hid (show r=1 from by rw[G.out,eu,if_neg (fun x=>x f),if_pos A])
     have E:10<(who.size:Int):=by omega
     rw[f];go_wp2_with fail;go_ret;exact⟨by rw[z.out];rfl,d⟩
   · have z:=hid (show r=eN who.data.toList from by rw[G.out,eu,if_neg (fun x=>x f),if_neg A])
     have E: ¬10<(who.size:Int):=by omega
     rw[f];go_wp2_with fail;refine(mc who _ (by unfold maxLen;omega)).mono ?_
     rintro e S ⟨rfl,rfl⟩;go_wp2_with fail;go_ret;exact⟨by rw[z.out];rfl,d⟩
 · have z:=hid (show r=bH [who,fo]from by rw[G.out,eu,if_pos f])
   have N:(bH [who,fo] !=0)=true:=by simpa using f
   generalize bH [who,fo]=n at*;clear f;go_wp2_with fail;go_ret;exact⟨by rw[z.out];rfl,d⟩
theorem AU (key:ByteArray) (a:Option Addr) (n cap:Nat) (w:World) (S:key.size≤150000000000000) (T:n≤1000000000000000):
    Calls prog 94 #[.string key,.slice a n cap] w fun e w'=>e= .returned (.int .i64 (ew key n))∧w'=w:=by
 obtain⟨r,K⟩: ∃r,r=ew key n:=⟨_,rfl⟩
 rw[←K];have E:=hid K;clear K;by_cases z:key.size=0
 · have ke:key=⟨#[]⟩:=by
    cases key with
    |mk d=>have h:d.size=0:=z;rw[Array.size_eq_zero_iff.1 h]
   subst ke;by_cases A:n=0
   · subst A
     have f:=hid (show r=0 from E.out);go_enter func94,ntmps94
     go_wp2_with fail;go_ret;exact⟨by rw[f.out];rfl,rfl⟩
   · have f:=hid (show r=4 from by rw[E.out,ew,if_neg (fun h=>h.1 z),if_pos (by rw[decide_eq_true z];simp[A])])
     have Q:((n:Int)==0)=false:=by simpa using (by omega: ¬(n:Int)=0)
     clear A z;go_enter func94,ntmps94
     go_wp2_with fail;go_ret;exact⟨by rw[f.out];rfl,rfl⟩
 · have P: ¬key.toList=[]:=by
    rw[Lib.toList_data];intro e;have:key.data.toList.length=key.size:=Array.length_toList
    rw[e]at this;exact z this.symm
   have N:(key.toList==([]:List UInt8))=false:=beq_eq_false_iff_ne.2 P;have O:(key.toList==(⟨#[]⟩:ByteArray).toList)=false:=by rw[Lib.toList_data ⟨#[]⟩];exact N
   by_cases y:eN key.data.toList=0
   · have F: ¬(¬key.size=0∧ ¬eN key.data.toList=0):=fun h=>h.2 y
     by_cases A:n=0
     · subst A
       have f:=hid (show r=4 from by rw[E.out,ew,if_neg F,if_pos (by simp[z])]);clear F;go_enter func94,ntmps94
       go_wp2_with fail;refine(mc key _ (by unfold maxLen;omega)).mono ?_
       rintro e M ⟨rfl,rfl⟩;rw[y];go_wp2_with fail;go_ret;exact⟨by rw[f.out];rfl,rfl⟩
     · have Q:((n:Int)==0)=false:=by simpa using (by omega: ¬(n:Int)=0)
       have J: ¬decide (key.size=0)≠decide (n=0):=by simp[z,A]
       by_cases G:20<n
       · have f:=hid (show r=2 from by rw[E.out,ew,if_neg F,if_neg J,if_pos G])
         have H:20<(n:Int):=by omega
         clear F J A;go_enter func94,ntmps94
         go_wp2_with fail;refine(mc key _ (by unfold maxLen;omega)).mono ?_
         rintro e M ⟨rfl,rfl⟩;rw[y];go_wp2_with fail;go_ret;exact⟨by rw[f.out];rfl,rfl⟩
       · have f:=hid (show r=0 from by rw[E.out,ew,if_neg F,if_neg J,if_neg G])
         have H: ¬20<(n:Int):=by omega
         clear F J A;go_enter func94,ntmps94
         go_wp2_with fail;refine(mc key _ (by unfold maxLen;omega)).mono ?_
         rintro e M ⟨rfl,rfl⟩;rw[y];go_wp2_with fail;go_ret;exact⟨by rw[f.out];rfl,rfl⟩
   · have f:=hid (show r=1 from by rw[E.out,ew,if_pos ⟨z,y⟩])
     have I:eN key.data.toList=1:=by
      rw[eN]at y⊢;split
      · rename_i h;rw[if_pos h]at y;exact absurd rfl y
      · rfl
     go_enter func94,ntmps94
     go_wp2_with fail;refine(mc key _ (by unfold maxLen;omega)).mono ?_
     rintro e M ⟨rfl,rfl⟩;rw[I];clear y I;go_wp2_with fail;go_ret;exact⟨by rw[f.out];rfl,rfl⟩
theorem qA (c:Cn) (v:Value) (w:World) (hv:fU w v c) (Y:iO c):
    Calls prog 50 #[v] w fun e w'=>e= .returned (.int .i64 (bo c))∧Below w.heap.size w w':=by
 obtain⟨vb,vm,va,rfl,hb,hm,ha⟩:=hv
 have HB:=hid hb;have HM:=hid hm;have HS:=hid Y;obtain⟨K,N,rfl,_⟩:=hb
 obtain⟨M,bh,rfl,_⟩:=hm
 obtain⟨aa,ca,rfl,_,Iw,_⟩:=ha
 obtain⟨r,hr⟩: ∃r,r=bo c:=⟨_,rfl⟩
 rw[←hr];have HR:=hid hr;have Z:=Y.who;have Iy:=Y.fo;have X:=Y.key;clear hr Y;obtain⟨wz,I⟩: ∃wz,wz=w.alloc (.cells #[.string c.who,.string c.fo,.slice K c.base.length N,.int .i64 c.cur,.slice M c.mine.length bh,.string c.key,.slice aa c.ask.length ca,.int .i64 c.keys] 47):=⟨_,rfl⟩
 have Ix:Below w.heap.size w wz:=by rw[I];exact(Below.refl _ _).alloc (Nat.le_refl _) _
 have HX:=hid (show Cs wz w.heap.size [.string c.who,.string c.fo,.slice K c.base.length N,.int .i64 c.cur,.slice M c.mine.length bh,.string c.key,.slice aa c.ask.length ca,.int .i64 c.keys]from by rw[I];exact Cs.new _ [.string c.who,.string c.fo,.slice K c.base.length N,.int .i64 c.cur,.slice M c.mine.length bh,.string c.key,.slice aa c.ask.length ca,.int .i64 c.keys] _);go_enter func50,ntmps50
 go_wp2_with fail;rw[←I];clear I;refine(AT c.who c.fo _ Z Iy).mono ?_
 rintro e w1 ⟨rfl,U⟩;have J:=ag Ix U;have F:=hid (HX.out.below U);by_cases O:eu c.who c.fo=0
 · have HN:=hid O
   rw[O];clear O;have aY:=F.out.cell 2 rfl;have x4:=F.out.cell 4 rfl;have Iz:=F.out.lt;have IB: ¬w.heap.size=w1.heap.size:=by omega
   obtain⟨P,H⟩: ∃P,P=w1.alloc (.cells #[.slice K c.base.length N,.slice M c.mine.length bh] 44):=⟨_,rfl⟩
   have V:Below w1.heap.size w1 P:=by rw[H];exact(Below.refl _ _).alloc (Nat.le_refl _) _
   have HY:=hid (show Cs P w1.heap.size [.slice K c.base.length N,.slice M c.mine.length bh]from by rw[H];exact Cs.new _ [.slice K c.base.length N,.slice M c.mine.length bh] _);have I5:=hid (F.out.below V);have T:=ag J V;go_wp2_with fail;rw[←H];clear H aY x4;go_loopw [21] (fun x wr=> ∃k:Nat,k≤2∧x= .int .i64 k∧Hid (1≤k→aH c.base=0)∧Hid (2≤k→aH c.mine=0)∧Below P.heap.size P wr) (fun x _=>2-(intOf x).toNat)
   case atStart=>exact⟨0,by omega,rfl,(fun h=>absurd h (by omega):1≤0→aH c.base=0),(fun h=>absurd h (by omega):2≤0→aH c.mine=0),Below.refl _ _⟩
   case round=>
    obtain⟨k,hk,rfl,H1,H2,A⟩:=hrel
    have d:=ag T A;have S:=hid (HY.out.below A);have G:=hid (I5.out.below A);have y0:=S.out.cell 0 rfl;have y1:=S.out.cell 1 rfl;rcases(by omega:k=0∨k=1∨k=2)with rfl|rfl|rfl
    · go_wp2_with fail
      refine(gL c.base _ _ (HB.out.below d) HS.out.base).mono ?_
      rintro e w2 ⟨rfl,z⟩;have E:=ag A z;have y:=ag d z;by_cases ae:aH c.base=0
      · have f:=hid ae
        rw[ae];clear ae y0 y1;go_wp2_with fail;go_roundw
        case rel=>exact⟨1,by omega,rfl,(fun _=>f.out:1≤1→aH c.base=0),(fun h=>absurd h (by omega):2≤1→aH c.mine=0),E⟩
        case measure=>simp[intOf]
      · have f:=hid (show r=aH c.base from by rw[HR.out,bo,if_neg (fun x=>x HN.out),if_pos ae])
        have Iv:(aH c.base !=0)=true:=by simpa using ae
        clear y0 y1 ae;go_wp2_with fail;go_ret;exact⟨by rw[f.out];rfl,y⟩
    · go_wp2_with fail
      refine(gL c.mine _ _ (HM.out.below d) HS.out.mine).mono ?_
      rintro e w2 ⟨rfl,z⟩;have E:=ag A z;have y:=ag d z;by_cases ae:aH c.mine=0
      · have f:=hid ae
        have I0:=hid (H1.out (by omega));rw[ae];clear ae y0 y1;go_wp2_with fail;go_roundw
        case rel=>exact⟨2,by omega,rfl,(fun _=>I0.out:1≤2→aH c.base=0),(fun _=>f.out:2≤2→aH c.mine=0),E⟩
        case measure=>simp[intOf]
      · have f:=hid (show r=aH c.mine from by rw[HR.out,bo,if_neg (fun x=>x HN.out),if_neg (fun x=>x (H1.out (by omega))),if_pos ae])
        have Iv:(aH c.mine !=0)=true:=by simpa using ae
        clear y0 y1 ae;go_wp2_with fail;go_ret;exact⟨by rw[f.out];rfl,y⟩
    · have Q:=hid (show r=if fV c=true then 3 else ew c.key c.ask.length from by rw[HR.out,bo,if_neg (fun x=>x HN.out),if_neg (fun x=>x (H1.out (by omega))),if_neg (fun x=>x (H2.out (by omega)))])
      have x3:=G.out.cell 3 rfl;have x7:=G.out.cell 7 rfl;have x5:=G.out.cell 5 rfl;have x6:=G.out.cell 6 rfl;clear y0 y1 H1 H2;have stop:fV c=true→Hid (r=3):=fun h=>(by rw[Q.out,if_pos h]:r=3)
      by_cases g1:c.cur<0
      · have f:=stop (by simp[fV,g1])
        clear stop;go_wp2_with fail;go_ret;exact⟨by rw[f.out];rfl,d⟩
      · have I6:decide (c.cur<0)=false:=decide_eq_false g1
        by_cases g2:1000000<c.cur
        · have f:=stop (by simp[fV,g2])
          clear stop;go_wp2_with fail;go_ret;exact⟨by rw[f.out];rfl,d⟩
        · have I7:decide (1000000<c.cur)=false:=decide_eq_false g2
          by_cases g3:c.keys<0
          · have f:=stop (by simp[fV,g3])
            clear stop;go_wp2_with fail;go_ret;exact⟨by rw[f.out];rfl,d⟩
          · have I8:decide (c.keys<0)=false:=decide_eq_false g3
            by_cases g4:1000000<c.keys
            · have f:=stop (by simp[fV,g4])
              clear stop;go_wp2_with fail;go_ret;exact⟨by rw[f.out];rfl,d⟩
            · have I9:decide (1000000<c.keys)=false:=decide_eq_false g4
              have f:=hid (show r=ew c.key c.ask.length from by rw[Q.out,if_neg (by rw[fV,I6,I7,I8,I9];decide)]);clear stop;go_wp2_with fail;refine(AU c.key aa c.ask.length ca _ X Iw).mono ?_
              rintro e w2 ⟨rfl,rfl⟩;rw[←f.out];go_wp2_with fail;go_ret;exact⟨rfl,d⟩
 · have f:=hid (show r=eu c.who c.fo from by rw[HR.out,bo,if_pos O])
   have IA:(eu c.who c.fo !=0)=true:=by simpa using O
   generalize eu c.who c.fo=n at*;clear O;go_wp2_with fail;go_ret;exact⟨by rw[f.out];rfl,J⟩
def ib (c:ay):List Value:=[.int .i64 c.k,.string c.p,.string c.q,.string c.t,.int .i64 c.b]
theorem kM {w:World} {v:Value} {L:List En}:an w v L↔aW 4 w v (L.map Pp.cells):=by
 constructor
 · rintro ⟨a,f,H,z,A,E⟩
   refine⟨a,f,by simpa using H,by simpa using z,by simpa using A,?_,fun i G=>?_⟩
   · intro r K
     obtain⟨e,_,rfl⟩:=List.mem_map.1 K
     exact⟨rfl,Pp.cells_one e⟩
   · obtain⟨b,o,F,hb,y⟩:=E i (by simpa using G)
     refine⟨b,o,F,hb,fun c u d=>?_⟩
     rw[List.getElem_map]at d;obtain⟨aL,I,aE,J⟩:=y
     match c,d with
     |0,d=>simp[Pp.cells]at d;subst d;exact aL
     |1,d=>simp[Pp.cells]at d;subst d;exact I
     |2,d=>simp[Pp.cells]at d;subst d;exact aE
     |3,d=>simp[Pp.cells]at d;subst d;exact J
     |c+4,d=>simp[Pp.cells]at d
 · rintro ⟨a,f,H,z,A,_,E⟩
   refine⟨a,f,by simpa using H,by simpa using z,by simpa using A,fun i G=>?_⟩
   obtain⟨b,o,F,hb,y⟩:=E i (by simpa using G)
   rw[List.getElem_map]at y;exact⟨b,o,F,hb,y 0 _ rfl,y 1 _ rfl,y 2 _ rfl,y 3 _ rfl⟩
theorem nv {w:World} {v:Value} {L:List ay}:cj w v L↔aW 5 w v (L.map ib):=by
 constructor
 · rintro ⟨a,y,H,z,A,E⟩
   refine⟨a,y,by simpa using H,by simpa using z,by simpa using A,?_,fun i G=>?_⟩
   · intro r M
     obtain⟨e,_,rfl⟩:=List.mem_map.1 M
     refine⟨rfl,fun u d=>?_⟩
     simp only[ib,List.mem_cons,List.not_mem_nil,or_false]at d;rcases d with rfl|rfl|rfl|rfl|rfl<;>rfl
   · obtain⟨b,o,F,hb,f⟩:=E i (by simpa using G)
     refine⟨b,o,F,hb,fun c u d=>?_⟩
     rw[List.getElem_map]at d;obtain⟨aL,I,aE,J,K⟩:=f
     match c,d with
     |0,d=>simp[ib]at d;subst d;exact aL
     |1,d=>simp[ib]at d;subst d;exact I
     |2,d=>simp[ib]at d;subst d;exact aE
     |3,d=>simp[ib]at d;subst d;exact J
     |4,d=>simp[ib]at d;subst d;exact K
     |c+5,d=>simp[ib]at d
 · rintro ⟨a,y,H,z,A,_,E⟩
   refine⟨a,y,by simpa using H,by simpa using z,by simpa using A,fun i G=>?_⟩
   obtain⟨b,o,F,hb,f⟩:=E i (by simpa using G)
   rw[List.getElem_map]at f;exact⟨b,o,F,hb,f 0 _ rfl,f 1 _ rfl,f 2 _ rfl,f 3 _ rfl,f 4 _ rfl⟩
theorem Tryz.infoRE:(prog.info? 107).map (fun i=>(i.zero,i.size,i.bytes))=some (some (.agg #[.string ⟨#[]⟩,.bool false,.string ⟨#[]⟩,.int .i64 0]),4,48):=by kernel_rfl
theorem oo (R:List (List Value)) (v:Value) (w:World) (hv:aW 4 w v R) (hn:R.length≤1000000000000):
    Calls prog 102 #[v] w fun e w'=> ∃u,e= .returned u∧aW 4 w' u R∧aI w.heap.size w' u∧Below w.heap.size w w':=by
 obtain⟨aZ,Q,U,V,X⟩:=info_parts Tryz.infoRE
 obtain⟨a,O,rfl,I0,P,G,f⟩:=hv
 have M:=hid G;have I6: ∀(w:World) (a:Option Addr) (n c Y N:Nat),(binOp .eql 44 (.slice a n c) (.slice none Y N)).run prog w= .ok (.bool a.isNone) w:=fun w a n c Y N=>Lib.run_eql_slice_nil w _ _ a n c Y N underlying44
 cases a with
 |none=>
  have hL:R=[]:=by
   cases R with
   |nil=>rfl
   |cons s r=>obtain⟨b,o,hb,_⟩:=f 0 (by simp);cases hb
  subst hL;clear G;go_enter func102,ntmps102
  go_wp2;go_ret;exact⟨_,rfl,⟨none,0,rfl,Nat.le_refl _,by simp,M.out,fun i h=>absurd h (by simp)⟩,gM _ _,Below.refl _ _⟩
 |some ad=>
  have d: ∀j u,R.flatten[j]?=some u→w.cell? (ad.add j)=some u:=by
   cases R with
   |nil=>intro j u S;simp at S
   |cons s r=>
    obtain⟨b,o,hb,_⟩:=f 0 (by simp)
    injection hb with hb
    subst hb
    exact jX (by decide) (fun r T=>(G r T).1) fun i hi=>by
     obtain⟨b',o',z,_,he⟩:=f i hi
     injection z with z
     injection z with h1 h2
     subst h1;subst h2;exact he
  have HC:=hid d;have J:=hid (iu (fun r T=>(G r T).1):R.flatten.length=R.length*4);clear d f G;go_enter func102,ntmps102
  go_wp2_with (at_builtin;refine wpList_append_own _ rfl _ _ 44 rfl w.heap.size 107 aZ (.agg #[.string ⟨#[]⟩,.bool false,.string ⟨#[]⟩,.int .i64 0]) 4 48 underlying44 Q U V X rfl (by decide) _ _ _ rfl (World.ownsRow_made w #[] 0 (Nat.le_refl _) (Nat.zero_le _) (by simp)) ad R.length O R.flatten rfl ?qc1 ?qc2 ?qc3 ?qc4 ?qc5 ?qc6 ?_)
  case qc1=>exact J.out
  case qc2=>intro j u S;exact Lib.cell?_alloc_some _ (HC.out j u S)
  case qc3=>exact kL M.out
  case qc4=>unfold maxLen;omega
  case qc5=>omega
  case qc6=>simp
  intro v2 w2 I y H;have A:Below w.heap.size w w2:=((Below.refl _ _).alloc (Nat.le_refl _) _).grown y (by simp) (fun k hk=>by simp[Value.ownBlock]at hk;omega);have E:w2.ownsRow w.heap.size 107 4 v2 R.length R.flatten:=by simpa using I
  have F:=hid (iN E (by omega) M.out);have K:=hid (iM E);obtain⟨a2,Z,I5,_,_,_⟩:=F.out
  clear I E y H;go_wp2_with fail;go_ret;exact⟨_,rfl,F.out,K.out,A⟩
theorem Tryz.infoRC:(prog.info? 72).map (fun i=>(i.zero,i.size,i.bytes))=some (some (.agg #[.int .i64 0,.string ⟨#[]⟩,.string ⟨#[]⟩,.string ⟨#[]⟩,.int .i64 0]),5,64):=by kernel_rfl
theorem uJ (R:List (List Value)) (v:Value) (w:World) (hv:aW 5 w v R) (hn:R.length≤1000000000000):
    Calls prog 103 #[v] w fun e w'=> ∃u,e= .returned u∧aW 5 w' u R∧aI w.heap.size w' u∧Below w.heap.size w w':=by
 obtain⟨aZ,Q,U,V,X⟩:=info_parts Tryz.infoRC
 obtain⟨a,O,rfl,I0,P,G,f⟩:=hv
 have M:=hid G;have I6: ∀(w:World) (a:Option Addr) (n c Y N:Nat),(binOp .eql 45 (.slice a n c) (.slice none Y N)).run prog w= .ok (.bool a.isNone) w:=fun w a n c Y N=>Lib.run_eql_slice_nil w _ _ a n c Y N underlying45
 cases a with
 |none=>
  have hL:R=[]:=by
   cases R with
   |nil=>rfl
   |cons s r=>obtain⟨b,o,hb,_⟩:=f 0 (by simp);cases hb
  subst hL;clear G;go_enter func103,ntmps103
  go_wp2;go_ret;exact⟨_,rfl,⟨none,0,rfl,Nat.le_refl _,by simp,M.out,fun i h=>absurd h (by simp)⟩,gM _ _,Below.refl _ _⟩
 |some ad=>
  have d: ∀j u,R.flatten[j]?=some u→w.cell? (ad.add j)=some u:=by
   cases R with
   |nil=>intro j u S;simp at S
   |cons s r=>
    obtain⟨b,o,hb,_⟩:=f 0 (by simp)
    injection hb with hb
    subst hb
    exact jX (by decide) (fun r T=>(G r T).1) fun i hi=>by
     obtain⟨b',o',z,_,he⟩:=f i hi
     injection z with z
     injection z with h1 h2
     subst h1;subst h2;exact he
  have HC:=hid d;have J:=hid (iu (fun r T=>(G r T).1):R.flatten.length=R.length*5);clear d f G;go_enter func103,ntmps103
  go_wp2_with (at_builtin;refine wpList_append_own _ rfl _ _ 45 rfl w.heap.size 72 aZ (.agg #[.int .i64 0,.string ⟨#[]⟩,.string ⟨#[]⟩,.string ⟨#[]⟩,.int .i64 0]) 5 64 underlying45 Q U V X rfl (by decide) _ _ _ rfl (World.ownsRow_made w #[] 0 (Nat.le_refl _) (Nat.zero_le _) (by simp)) ad R.length O R.flatten rfl ?qc1 ?qc2 ?qc3 ?qc4 ?qc5 ?qc6 ?_)
  case qc1=>exact J.out
  case qc2=>intro j u S;exact Lib.cell?_alloc_some _ (HC.out j u S)
  case qc3=>exact kL M.out
  case qc4=>unfold maxLen;omega
  case qc5=>omega
  case qc6=>simp
  intro v2 w2 I y H;have A:Below w.heap.size w w2:=((Below.refl _ _).alloc (Nat.le_refl _) _).grown y (by simp) (fun k hk=>by simp[Value.ownBlock]at hk;omega);have E:w2.ownsRow w.heap.size 72 5 v2 R.length R.flatten:=by simpa using I
  have F:=hid (iN E (by omega) M.out);have K:=hid (iM E);obtain⟨a2,Z,I5,_,_,_⟩:=F.out
  clear I E y H;go_wp2_with fail;go_ret;exact⟨_,rfl,F.out,K.out,A⟩
theorem cj.nbo {W y:World} {v:Value} {L:List ay} {g:Nat} (h:cj W v L) (z:W.grownBy y (some g)) (H: ∀b,v.ownBlock=some b→b≠g):cj y v L:=by
 obtain⟨a,f,rfl,A,E,F⟩:=h
 refine⟨a,f,rfl,A,E,fun i G=>?_⟩
 obtain⟨b,o,rfl,hb,d⟩:=F i G
 have c:=ir z hb (H b rfl);exact⟨b,o,rfl,Nat.lt_of_lt_of_le hb z.size,(c _).trans d.1,(c _).trans d.2.1,(c _).trans d.2.2.1,(c _).trans d.2.2.2.1,(c _).trans d.2.2.2.2⟩
theorem aI.nb {B:Nat} {w w':World} {v:Value} {g:Nat} (h:aI B w v) (z:w.grownBy w' (some g)) (y: ∀b,v.ownBlock=some b→b≠g):aI B w' v:=fun b hb=>by
 obtain⟨f,cur,T,d⟩:=h b hb
 exact⟨f,cur,T,(z.block b (cM d) (fun e=>y b hb (by injection e))).trans d⟩
theorem aI.setCell {B:Nat} {w:World} {v:Value} (h:aI B w v) (b o:Nat) (u:Value):aI B (w.setCell ⟨b,o,none⟩ u) v:=fun g y=>by
 obtain⟨f,cur,T,d⟩:=h g y
 by_cases hb:b=g
 · subst hb
   refine⟨f,cur.setIfInBounds o u,T,?_⟩
   unfold World.setCell;simp only[Array.getElem?_modify,d,if_true,Option.map_some];rfl
 · exact⟨f,cur,T,((ar w b o u).block g (cM d) (fun e=>hb (by injection e with e;exact e.symm))).trans d⟩
theorem an.nbo {W y:World} {v:Value} {L:List En} {g:Nat} (h:an W v L) (z:W.grownBy y (some g)) (H: ∀b,v.ownBlock=some b→b≠g):an y v L:=by
 obtain⟨a,f,rfl,A,E,F⟩:=h
 refine⟨a,f,rfl,A,E,fun i G=>?_⟩
 obtain⟨b,o,rfl,hb,d⟩:=F i G
 have c:=ir z hb (H b rfl);exact⟨b,o,rfl,Nat.lt_of_lt_of_le hb z.size,(c _).trans d.1,(c _).trans d.2.1,(c _).trans d.2.2.1,(c _).trans d.2.2.2⟩
theorem aW.nbo {n:Nat} {W y:World} {v:Value} {R:List (List Value)} {g:Nat} (h:aW n W v R) (z:W.grownBy y (some g)) (J: ∀b,v.ownBlock=some b→b≠g):aW n y v R:=by
 obtain⟨a,f,rfl,A,E,G,F⟩:=h
 refine⟨a,f,rfl,A,E,G,fun i I=>?_⟩
 obtain⟨b,o,rfl,hb,H⟩:=F i I
 have c:=ir z hb (J b rfl);exact⟨b,o,rfl,Nat.lt_of_lt_of_le hb z.size,fun d u K=>(c _).trans (H d u K)⟩
theorem bj {a b c:World} {g:Nat} (h:a.grownBy b (some g)) (k:b.grownBy c (some g)):a.grownBy c (some g):=⟨k.os.trans h.os,k.tape.trans h.tape,k.output.trans h.output,Nat.le_trans h.size k.size,fun x f d=>(k.block x (Nat.lt_of_lt_of_le f h.size) d).trans (h.block x f d)⟩
def fD (B:Nat) (w:World) (v:Value) (c:Cn):Prop:= ∃vb vm va,v= .agg #[.string c.who,.string c.fo,vb,.int .i64 c.cur,vm,.string c.key,va,.int .i64 c.keys]∧(an w vb c.base∧aI B w vb)∧(an w vm c.mine∧aI B w vm)∧cj w va c.ask∧aI B w va
theorem fD.lies {B:Nat} {w:World} {v:Value} {c:Cn} (h:fD B w v c):fU w v c:=by
 obtain⟨A,E,z,e,d,f,y,_⟩:=h
 exact⟨A,E,z,e,d.1,f.1,y⟩
theorem fD.below {B:Nat} {w w':World} {v:Value} {c:Cn} (h:fD B w v c) (d:Below w.heap.size w w'):fD B w' v c:=by
 obtain⟨F,G,E,e,f,y,z,A⟩:=h
 exact⟨F,G,E,e,⟨f.1.below d,f.2.below d⟩,⟨y.1.below d,y.2.below d⟩,z.below d,A.below d⟩
theorem fD.mono {B B':Nat} {w:World} {v:Value} {c:Cn} (h:fD B w v c) (d:B'≤B):fD B' w v c:=by
 obtain⟨F,G,E,e,f,y,z,A⟩:=h
 exact⟨F,G,E,e,⟨f.1,f.2.mono d⟩,⟨y.1,y.2.mono d⟩,z,A.mono d⟩
theorem fD.nbo {B g:Nat} {w w':World} {v:Value} {c:Cn} (h:fD B w v c) (d:w.grownBy w' (some g)) (H:g<B):fD B w' v c:=by
 obtain⟨F,G,E,e,f,y,A,z⟩:=h
 have k: ∀{u:Value},aI B w u→ ∀b,u.ownBlock=some b→b≠g:=fun h b hb=>by have:=(h b hb).1;omega
 exact⟨F,G,E,e,⟨f.1.nbo d (k f.2),f.2.nb d (k f.2)⟩,⟨y.1.nbo d (k y.2),y.2.nb d (k y.2)⟩,A.nbo d (k z),z.nb d (k z)⟩
def oq:Cn:=⟨⟨#[]⟩,⟨#[]⟩,[],0,[],⟨#[]⟩,[],0⟩
theorem AV (B:Nat) (w:World):fD B w (.agg #[.string ⟨#[]⟩,.string ⟨#[]⟩,.slice none 0 0,.int .i64 0,.slice none 0 0,.string ⟨#[]⟩,.slice none 0 0,.int .i64 0]) oq:=
 ⟨_,_,_,rfl,⟨kJ _,gM _ _⟩,⟨kJ _,gM _ _⟩,⟨none,0,rfl,Nat.le_refl _,by decide,fun i h=>absurd h (by simp[oq])⟩,gM _ _⟩
abbrev zs:List Value:=[.string ⟨#[]⟩,.string ⟨#[]⟩,.slice none 0 0,.int .i64 0,.slice none 0 0,.string ⟨#[]⟩,.slice none 0 0,.int .i64 0]
theorem uK (c:Cn) (v:Value) (w:World) (hv:fU w v c) (hb:c.base.length≤1000000) (hm:c.mine.length≤1000000) (ha:c.ask.length≤1000000):
    Calls prog 56 #[v] w fun e w'=> ∃u,e= .returned u∧fD w.heap.size w' u c∧Below w.heap.size w w':=by
 obtain⟨vb,vm,va,rfl,lb,lm,la⟩:=hv
 have IK:=hid lb;have IL:=hid lm;have IJ:=hid la;obtain⟨ab,cb,rfl,_⟩:=lb
 obtain⟨am,bh,rfl,_⟩:=lm
 obtain⟨Z,ca,rfl,_⟩:=la
 obtain⟨G,H⟩: ∃G,G=(w.alloc (.cells #[.string c.who,.string c.fo,.slice ab c.base.length cb,.int .i64 c.cur,.slice am c.mine.length bh,.string c.key,.slice Z c.ask.length ca,.int .i64 c.keys] 47)).alloc (.cells #[.string ⟨#[]⟩,.string ⟨#[]⟩,.slice none 0 0,.int .i64 0,.slice none 0 0,.string ⟨#[]⟩,.slice none 0 0,.int .i64 0] 47):=⟨_,rfl⟩
 have IE:Below w.heap.size w G:=by rw[H];exact((Below.refl _ _).alloc (Nat.le_refl _) _).alloc (by simp) _
 have IH:Hid (Cs G w.heap.size [.string c.who,.string c.fo,.slice ab c.base.length cb,.int .i64 c.cur,.slice am c.mine.length bh,.string c.key,.slice Z c.ask.length ca,.int .i64 c.keys]):=(by rw[H];exact(Cs.new w [.string c.who,.string c.fo,.slice ab c.base.length cb,.int .i64 c.cur,.slice am c.mine.length bh,.string c.key,.slice Z c.ask.length ca,.int .i64 c.keys] _).below ((Below.refl _ _).alloc (Nat.le_refl _) _):Cs G w.heap.size _)
 have I0:=hid (show Cs G (w.heap.size+1) zs from by
  have:=Cs.new (w.alloc (.cells #[.string c.who,.string c.fo,.slice ab c.base.length cb,.int .i64 c.cur,.slice am c.mine.length bh,.string c.key,.slice Z c.ask.length ca,.int .i64 c.keys] 47)) zs 47
  rw[H];simpa using this)
 have IP:w.heap.size+1<G.heap.size:=I0.out.lt;go_enter func56,ntmps56
 go_wp2_with fail;rw[←H];clear H;refine(oo (c.base.map Pp.cells) _ _ (kM.1 (IK.out.below IE)) (by simp;omega)).mono ?_
 rintro e w1 ⟨u1,rfl,Iz,Iw,O⟩;have I5:=hid (kM.2 Iz);have I8:=hid Iw;obtain⟨J,K,rfl,_⟩:=I5.out
 have IS:=O.size;have M:=hid (IH.out.below O);have c0:=M.out.cell 2 rfl;have f0:=M.out.fr 2;have d4:=M.out.cell 4 rfl;obtain⟨P,A⟩: ∃P,P=w1.setCell ⟨w.heap.size,2,none⟩ (.slice J c.base.length K):=⟨_,rfl⟩
 have IF:Hid (Cs P w.heap.size [.string c.who,.string c.fo,.slice J c.base.length K,.int .i64 c.cur,.slice am c.mine.length bh,.string c.key,.slice Z c.ask.length ca,.int .i64 c.keys]):=(by rw[A];exact M.out.set 2 _:Cs P w.heap.size _)
 have IM:=hid (show Cs P (w.heap.size+1) zs from by rw[A];exact(I0.out.below O).other (by omega) _);have IT:P.heap.size=w1.heap.size:=by rw[A];simp
 have V:=hid (show an P (.slice J c.base.length K) c.base∧aI G.heap.size P (.slice J c.base.length K)from by rw[A];exact⟨I5.out.nbo (ar _ _ _ _) (fun b hb=>by have:=(I8.out b hb).1;omega),I8.out.setCell _ _ _⟩);have IC:Below w.heap.size w P:=by rw[A];exact(ag IE O).setCell (p:=⟨w.heap.size,2,none⟩) (Nat.le_refl _) _
 clear Iz Iw;go_wp2_with fail;rw[←A];clear A c0 f0 d4;refine(oo (c.mine.map Pp.cells) _ _ (kM.1 (IL.out.below IC)) (by simp;omega)).mono ?_
 rintro e w3 ⟨u3,rfl,IA,Ix,E⟩;have I6:=hid (kM.2 IA);have I9:=hid Ix;obtain⟨S,T,rfl,_⟩:=I6.out
 have IU:=E.size;have N:=hid (IF.out.below E);have c0:=N.out.cell 4 rfl;have f0:=N.out.fr 4;have d6:=N.out.cell 6 rfl;obtain⟨I,z⟩: ∃I,I=w3.setCell ⟨w.heap.size,4,none⟩ (.slice S c.mine.length T):=⟨_,rfl⟩
 have IG:Hid (Cs I w.heap.size [.string c.who,.string c.fo,.slice J c.base.length K,.int .i64 c.cur,.slice S c.mine.length T,.string c.key,.slice Z c.ask.length ca,.int .i64 c.keys]):=(by rw[z];exact N.out.set 4 _:Cs I w.heap.size _)
 have IN:=hid (show Cs I (w.heap.size+1) zs from by rw[z];exact(IM.out.below E).other (by omega) _);have IV:I.heap.size=w3.heap.size:=by rw[z];simp
 have X:=hid (show an I (.slice J c.base.length K) c.base∧aI G.heap.size I (.slice J c.base.length K)from by rw[z];exact⟨(V.out.1.below E).nbo (ar _ _ _ _) (fun b hb=>by have:=(V.out.2 b hb).1;omega),(V.out.2.below E).setCell _ _ _⟩);have Y:=hid (show an I (.slice S c.mine.length T) c.mine∧aI G.heap.size I (.slice S c.mine.length T)from by rw[z];exact⟨I6.out.nbo (ar _ _ _ _) (fun b hb=>by have:=(I9.out b hb).1;omega),(I9.out.setCell _ _ _).mono (by omega)⟩);have ID:Below w.heap.size w I:=by rw[z];exact(ag IC E).setCell (p:=⟨w.heap.size,4,none⟩) (Nat.le_refl _) _
 clear IA Ix;go_wp2_with fail;rw[←z];clear z c0 f0 d6;refine(uJ (c.ask.map ib) _ _ (nv.1 (IJ.out.below ID)) (by simp;omega)).mono ?_
 rintro e w5 ⟨u5,rfl,IB,Iy,y⟩;have I7:=hid (nv.2 IB);have Iv:=hid Iy;obtain⟨za,zc,rfl,_⟩:=I7.out
 have IW:=y.size;have U:=hid (IG.out.below y);have c0:=U.out.cell 6 rfl;have f0:=U.out.fr 6;obtain⟨Q,F⟩: ∃Q,Q=w5.setCell ⟨w.heap.size,6,none⟩ (.slice za c.ask.length zc):=⟨_,rfl⟩
 have f:Hid (Cs Q w.heap.size [.string c.who,.string c.fo,.slice J c.base.length K,.int .i64 c.cur,.slice S c.mine.length T,.string c.key,.slice za c.ask.length zc,.int .i64 c.keys]):=(by rw[F];exact U.out.set 6 _:Cs Q w.heap.size _)
 have d:=hid (show Cs Q (w.heap.size+1) zs from by rw[F];exact(IN.out.below y).other (by omega) _)
 have II:Hid (fD G.heap.size Q (.agg #[.string c.who,.string c.fo,.slice J c.base.length K,.int .i64 c.cur,.slice S c.mine.length T,.string c.key,.slice za c.ask.length zc,.int .i64 c.keys]) c):=(by
  rw[F];have k: ∀{W:World} {u:Value},aI G.heap.size W u→ ∀b,u.ownBlock=some b→b≠w.heap.size:=fun h b hb=>by have:=(h b hb).1;omega
  exact⟨_,_,_,rfl,⟨(X.out.1.below y).nbo (ar _ _ _ _) (k X.out.2),(X.out.2.below y).setCell _ _ _⟩,⟨(Y.out.1.below y).nbo (ar _ _ _ _) (k Y.out.2),(Y.out.2.below y).setCell _ _ _⟩,I7.out.nbo (ar _ _ _ _) (fun b hb=>by have:=(Iv.out b hb).1;omega),(Iv.out.setCell _ _ _).mono (by omega)⟩:fD G.heap.size Q _ c)
 have IQ:Below w.heap.size w Q:=by rw[F];exact(ag ID y).setCell (p:=⟨w.heap.size,6,none⟩) (Nat.le_refl _) _
 clear IB Iy;go_upto_region 4 with fail;rw[←F];clear F c0 f0;have a0:=f.out.cell 0 rfl;have a1:=f.out.cell 1 rfl;have a2:=f.out.cell 2 rfl;have a3:=f.out.cell 3 rfl;have a4:=f.out.cell 4 rfl;have a5:=f.out.cell 5 rfl;have a6:=f.out.cell 6 rfl;have a7:=f.out.cell 7 rfl;have y0:=d.out.cell 0 rfl;have y1:=d.out.cell 1 rfl;have al:=d.out.cell 2 rfl;have y3:=d.out.cell 3 rfl;have y4:=d.out.cell 4 rfl;have y5:=d.out.cell 5 rfl;have y6:=d.out.cell 6 rfl;have y7:=d.out.cell 7 rfl;have g0:=d.out.fr 0;have g1:=d.out.fr 1;have g2:=d.out.fr 2;have g3:=d.out.fr 3;have g4:=d.out.fr 4;have g5:=d.out.fr 5;have g6:=d.out.fr 6;have g7:=d.out.fr 7;have IR: ¬w.heap.size=w.heap.size+1:=by omega
 go_wp2_with fail;refine bodyPost_ret (v:= .agg #[.string c.who,.string c.fo,.slice J c.base.length K,.int .i64 c.cur,.slice S c.mine.length T,.string c.key,.slice za c.ask.length zc,.int .i64 c.keys]) (by simp[results,results56,go_sem,y0,y1,al,y3,y4,y5,y6,y7]) rfl ⟨_,rfl,?_,?_⟩
 · exact(II.out.nbo (bj (bj (bj (bj (bj (bj (bj (ar Q (w.heap.size+1) 0 (.string c.who)) (ar _ (w.heap.size+1) 1 (.string c.fo))) (ar _ (w.heap.size+1) 2 (.slice J c.base.length K))) (ar _ (w.heap.size+1) 3 (.int .i64 c.cur))) (ar _ (w.heap.size+1) 4 (.slice S c.mine.length T))) (ar _ (w.heap.size+1) 5 (.string c.key))) (ar _ (w.heap.size+1) 6 (.slice za c.ask.length zc))) (ar _ (w.heap.size+1) 7 (.int .i64 c.keys))) IP).mono (by omega)
 · exact((((((((IQ.setCell (p:=⟨w.heap.size+1,0,none⟩) (Nat.le_succ _) _).setCell (p:=⟨w.heap.size+1,1,none⟩) (Nat.le_succ _) _).setCell (p:=⟨w.heap.size+1,2,none⟩) (Nat.le_succ _) _).setCell (p:=⟨w.heap.size+1,3,none⟩) (Nat.le_succ _) _).setCell (p:=⟨w.heap.size+1,4,none⟩) (Nat.le_succ _) _).setCell (p:=⟨w.heap.size+1,5,none⟩) (Nat.le_succ _) _).setCell (p:=⟨w.heap.size+1,6,none⟩) (Nat.le_succ _) _).setCell (p:=⟨w.heap.size+1,7,none⟩) (Nat.le_succ _) _)
structure Se where
 nu:Int
 wh:ByteArray
 tx:ByteArray
 si:Int
 ti:Int
def ic (w:World) (b o:Nat) (s:Se):Prop:=w.cell? ⟨b,o,none⟩=some (.int .i64 s.nu)∧w.cell? ⟨b,o+1,none⟩=some (.string s.wh)∧w.cell? ⟨b,o+2,none⟩=some (.string s.tx)∧w.cell? ⟨b,o+3,none⟩=some (.int .i64 s.si)∧w.cell? ⟨b,o+4,none⟩=some (.int .i64 s.ti)
def de (w:World) (v:Value) (G:List Se):Prop:= ∃a cap,v= .slice a G.length cap∧G.length≤cap∧G.length≤1000000000000000∧ ∀i (h:i<G.length),∃b o,a=some ⟨b,o,none⟩∧b<w.heap.size∧ic w b (o+i*5) G[i]
theorem ic.below {w w':World} {b o:Nat} {g:Se} (h:ic w b o g) (hb:b<w.heap.size) (d:Below w.heap.size w w'):ic w' b o g:=
 ⟨(d.cell (p:=⟨b,o,none⟩) hb).trans h.1,(d.cell (p:=⟨b,o+1,none⟩) hb).trans h.2.1,(d.cell (p:=⟨b,o+2,none⟩) hb).trans h.2.2.1,(d.cell (p:=⟨b,o+3,none⟩) hb).trans h.2.2.2.1,(d.cell (p:=⟨b,o+4,none⟩) hb).trans h.2.2.2.2⟩
theorem de.below {w w':World} {v:Value} {G:List Se} (h:de w v G) (f:Below w.heap.size w w'):de w' v G:=by
 obtain⟨a,d,I,y,z,A⟩:=h
 refine⟨a,d,I,y,z,fun i H=>?_⟩
 obtain⟨b,o,E,hb,F⟩:=A i H
 exact⟨b,o,E,Nat.lt_of_lt_of_le hb f.size,F.below hb f⟩
theorem AW (w:World):de w (.slice none 0 0) []:=⟨none,0,rfl,Nat.le_refl _,by decide,fun i h=>absurd h (by simp)⟩
def mg (G:List Se):Prop:= ∀g∈G,g.wh.size≤150000000000000∧g.tx.size≤150000000000000
theorem iP {w f:World} {a b c d:Value} {T:TypeId} (h:Below (w.alloc (.cells #[a,b,c,d] T)).heap.size (w.alloc (.cells #[a,b,c,d] T)) f):
    f.cell? ⟨w.heap.size,0,none⟩=some a∧f.cell? ⟨w.heap.size,1,none⟩=some b∧f.cell? ⟨w.heap.size,2,none⟩=some c∧f.cell? ⟨w.heap.size,3,none⟩=some d∧Below w.heap.size w f∧w.heap.size<f.heap.size:=by
 have y:w.heap.size<(w.alloc (.cells #[a,b,c,d] T)).heap.size:=by simp
 refine⟨?_,?_,?_,?_,((Below.refl _ _).alloc (Nat.le_refl _) _).trans (h.mono (Nat.le_of_lt y)),Nat.lt_of_lt_of_le y h.size⟩
 · exact(h.cell (p:=⟨w.heap.size,0,none⟩) y).trans (by simp)
 · exact(h.cell (p:=⟨w.heap.size,1,none⟩) y).trans (by simp)
 · exact(h.cell (p:=⟨w.heap.size,2,none⟩) y).trans (by simp)
 · exact(h.cell (p:=⟨w.heap.size,3,none⟩) y).trans (by simp)
theorem qB {w f:World} {a b c d e:Value} {T:TypeId} (h:Below (w.alloc (.cells #[a,b,c,d,e] T)).heap.size (w.alloc (.cells #[a,b,c,d,e] T)) f):
    f.cell? ⟨w.heap.size,0,none⟩=some a∧f.cell? ⟨w.heap.size,1,none⟩=some b∧f.cell? ⟨w.heap.size,2,none⟩=some c∧f.cell? ⟨w.heap.size,3,none⟩=some d∧f.cell? ⟨w.heap.size,4,none⟩=some e∧Below w.heap.size w f∧w.heap.size<f.heap.size:=by
 have y:w.heap.size<(w.alloc (.cells #[a,b,c,d,e] T)).heap.size:=by simp
 refine⟨?_,?_,?_,?_,?_,((Below.refl _ _).alloc (Nat.le_refl _) _).trans (h.mono (Nat.le_of_lt y)),Nat.lt_of_lt_of_le y h.size⟩
 · exact(h.cell (p:=⟨w.heap.size,0,none⟩) y).trans (by simp)
 · exact(h.cell (p:=⟨w.heap.size,1,none⟩) y).trans (by simp)
 · exact(h.cell (p:=⟨w.heap.size,2,none⟩) y).trans (by simp)
 · exact(h.cell (p:=⟨w.heap.size,3,none⟩) y).trans (by simp)
 · exact(h.cell (p:=⟨w.heap.size,4,none⟩) y).trans (by simp)
def bp (l n m:Int):Bool:=decide (l≤n) && decide (n≤m)
theorem ot {l n m:Int} (h:bp l n m=true):l≤n∧n≤m:=by simpa[bp]using h
def eF (n:Nat) (x l r:Int):Int:=if(bp 1 l 1000000 && bp 0 r 100000 && bp 1 x 1099511627776)=true then(if 20<n then 2 else 0)else 3
theorem qC (n:Nat) (x l r:Int):(bp 1 l 1000000=false∧eF n x l r=3)∨(bp 1 l 1000000=true∧bp 0 r 100000=false∧eF n x l r=3)∨(bp 1 l 1000000=true∧bp 0 r 100000=true∧bp 1 x 1099511627776=false∧eF n x l r=3)∨
    (bp 1 l 1000000=true∧bp 0 r 100000=true∧bp 1 x 1099511627776=true∧20<n∧eF n x l r=2)∨(bp 1 l 1000000=true∧bp 0 r 100000=true∧bp 1 x 1099511627776=true∧ ¬20<n∧eF n x l r=0):=by
 cases d:bp 1 l 1000000<;>cases f:bp 0 r 100000<;>cases y:bp 1 x 1099511627776<;>by_cases z:20<n<;>simp[eF,d,f,y,z]
def cN (x:Int) (s:Se):Int:=if(bp 1 s.nu (x-1) && bp 0 s.si 300 && bp 0 s.ti 2199023255552)=true then(if aM s.wh.data.toList=true then(if s.si<(s.tx.size:Int)then 2 else 0)else 1)else 3
theorem qD (x:Int) (s:Se):(bp 1 s.nu (x-1)=false∧cN x s=3)∨(bp 1 s.nu (x-1)=true∧bp 0 s.si 300=false∧cN x s=3)∨(bp 1 s.nu (x-1)=true∧bp 0 s.si 300=true∧bp 0 s.ti 2199023255552=false∧cN x s=3)∨
    (bp 1 s.nu (x-1)=true∧bp 0 s.si 300=true∧bp 0 s.ti 2199023255552=true∧aM s.wh.data.toList=false∧cN x s=1)∨(bp 1 s.nu (x-1)=true∧bp 0 s.si 300=true∧bp 0 s.ti 2199023255552=true∧aM s.wh.data.toList=true∧s.si<(s.tx.size:Int)∧cN x s=2)∨
    (bp 1 s.nu (x-1)=true∧bp 0 s.si 300=true∧bp 0 s.ti 2199023255552=true∧aM s.wh.data.toList=true∧ ¬s.si<(s.tx.size:Int)∧cN x s=0):=by
 cases d:bp 1 s.nu (x-1)<;>cases f:bp 0 s.si 300<;>cases y:bp 0 s.ti 2199023255552<;>cases A:aM s.wh.data.toList<;>by_cases z:s.si<(s.tx.size:Int)<;>simp[cN,d,f,y,z,A]
theorem AX {s:ByteArray} {b:Bool} (h:aM s.data.toList=b):bH [s]=if b=true then 0 else 1:=by simp[bH,h]
theorem gy (l n m:Int) (w:World):Calls prog 115 #[.int .i64 l,.int .i64 n,.int .i64 m] w fun e w'=>e= .returned (.bool (bp l n m))∧w'=w:=by
 by_cases h:l≤n
 · have d:=hid (show decide (n≤m)=bp l n m from by rw[bp,decide_eq_true h];rfl)
   go_enter func115,ntmps115
   go_wp2;go_ret;exact⟨bt d.out,rfl⟩
 · have d:=hid (show false=bp l n m from by rw[bp,decide_eq_false h];rfl)
   go_enter func115,ntmps115
   go_wp2;go_ret;exact⟨bt d.out,rfl⟩
theorem uL (G:List Se) (v:Value) (x l r:Int) (w:World) (Q:de w v G):
    Calls prog 75 #[.agg #[v,.int .i64 x,.int .i64 l,.int .i64 r]] w fun e w'=>e= .returned (.int .i64 (eF G.length x l r))∧Below w.heap.size w w':=by
 obtain⟨a,J,rfl,N,M,_⟩:=Q
 have A:Below w.heap.size w (w.alloc (.cells #[.slice a G.length J,.int .i64 x,.int .i64 l,.int .i64 r] 26)):=(Below.refl _ _).alloc (Nat.le_refl _) _;rcases qC G.length x l r with⟨y,ae⟩|⟨y,z,ae⟩|⟨y,z,H,ae⟩|⟨y,z,H,P,ae⟩|⟨y,z,H,P,ae⟩
 · have F:=ak ae
   have E:=ak y;clear ae y;go_enter func75,ntmps75
   go_wp2_with fail;refine(gy 1 l 1000000 _).mono ?_
   rintro e f ⟨rfl,d⟩;rw[d,E.out];clear d f;go_wp2;go_ret;exact⟨by rw[F.out];rfl,A⟩
 · have F:=ak ae
   have E:=ak y;have I:=ak z;clear ae y z;go_enter func75,ntmps75
   go_wp2_with fail;refine(gy 1 l 1000000 _).mono ?_
   rintro e f ⟨rfl,d⟩;rw[d,E.out];clear d f;go_wp2_with fail;refine(gy 0 r 100000 _).mono ?_
   rintro e f ⟨rfl,d⟩;rw[d,I.out];clear d f;go_wp2;go_ret;exact⟨by rw[F.out];rfl,A⟩
 all_goals
  have F:=ak ae;have E:=ak y;have I:=ak z;have O:=ak H;try (have K:20<(G.length:Int):=by omega)
  try (have K: ¬20<(G.length:Int):=by omega)
  clear ae y z H;go_enter func75,ntmps75
  go_wp2_with fail;refine(gy 1 l 1000000 _).mono ?_
  rintro e f ⟨rfl,d⟩;rw[d,E.out];clear d f;go_wp2_with fail;refine(gy 0 r 100000 _).mono ?_
  rintro e f ⟨rfl,d⟩;rw[d,I.out];clear d f;go_wp2_with fail;refine(gy 1 x 1099511627776 _).mono ?_
  rintro e f ⟨rfl,d⟩;rw[d,O.out];clear d f;go_wp2;go_ret;exact⟨by rw[F.out];rfl,A⟩
theorem uM (s:Se) (x:Int) (w:World) (X:1≤x) (Y:x≤1099511627776) (U:s.wh.size≤150000000000000):
    Calls prog 76 #[.agg #[.int .i64 s.nu,.string s.wh,.string s.tx,.int .i64 s.si,.int .i64 s.ti],.int .i64 x] w fun e w'=>e= .returned (.int .i64 (cN x s))∧Below w.heap.size w w':=by
 have G:Below w.heap.size w (w.alloc (.cells #[.int .i64 s.nu,.string s.wh,.string s.tx,.int .i64 s.si,.int .i64 s.ti] 142)):=(Below.refl _ _).alloc (Nat.le_refl _) _;rcases qD x s with⟨y,ae⟩|⟨y,z,ae⟩|⟨y,z,F,ae⟩|⟨y,z,F,N,ae⟩|⟨y,z,F,N,T,ae⟩|⟨y,z,F,N,T,ae⟩
 · have E:=ak ae
   have A:=ak y;clear ae y;go_enter func76,ntmps76
   go_wp2_with fail;refine(gy 1 s.nu (x-1) _).mono ?_
   rintro e f ⟨rfl,d⟩;rw[d,A.out];clear d f;go_wp2;go_ret;exact⟨by rw[E.out];rfl,G⟩
 · have E:=ak ae
   have A:=ak y;have H:=ak z;clear ae y z;go_enter func76,ntmps76
   go_wp2_with fail;refine(gy 1 s.nu (x-1) _).mono ?_
   rintro e f ⟨rfl,d⟩;rw[d,A.out];clear d f;go_wp2_with fail;refine(gy 0 s.si 300 _).mono ?_
   rintro e f ⟨rfl,d⟩;rw[d,H.out];clear d f;go_wp2;go_ret;exact⟨by rw[E.out];rfl,G⟩
 · have E:=ak ae
   have A:=ak y;have H:=ak z;have P:=ak F;clear ae y z F;go_enter func76,ntmps76
   go_wp2_with fail;refine(gy 1 s.nu (x-1) _).mono ?_
   rintro e f ⟨rfl,d⟩;rw[d,A.out];clear d f;go_wp2_with fail;refine(gy 0 s.si 300 _).mono ?_
   rintro e f ⟨rfl,d⟩;rw[d,H.out];clear d f;go_wp2_with fail;refine(gy 0 s.ti 2199023255552 _).mono ?_
   rintro e f ⟨rfl,d⟩;rw[d,P.out];clear d f;go_wp2;go_ret;exact⟨by rw[E.out];rfl,G⟩
 all_goals
  have E:=ak ae;have A:=ak y;have H:=ak z;have P:=ak F;have S:=ak (AX N);have M: ∀i (O:i<[s.wh].length),([s.wh][i]).size≤1000000000000000:=fun i O=>by match i,O with|0,_=>exact Nat.le_trans U (by decide)
  have Q:=ak M;clear ae y z F N M;go_enter func76,ntmps76
  go_wp2_with fail;refine(gy 1 s.nu (x-1) _).mono ?_
  rintro e f ⟨rfl,d⟩;rw[d,A.out];clear d f;go_wp2_with fail;refine(gy 0 s.si 300 _).mono ?_
  rintro e f ⟨rfl,d⟩;rw[d,H.out];clear d f;go_wp2_with fail;refine(gy 0 s.ti 2199023255552 _).mono ?_
  rintro e f ⟨rfl,d⟩;rw[d,P.out];clear d f;go_wp2_with fail;refine(nt [s.wh] (w.heap.size+1) 0 1 _ (by simp) Q.out (by simp) (fun i O=>by match i,O with|0,_=>simp)).mono ?_
  rintro e f ⟨rfl,I⟩;rw[S.out];have J:Below (w.alloc (.cells #[.int .i64 s.nu,.string s.wh,.string s.tx,.int .i64 s.si,.int .i64 s.ti] 142)).heap.size (w.alloc (.cells #[.int .i64 s.nu,.string s.wh,.string s.tx,.int .i64 s.si,.int .i64 s.ti] 142)) f:=((Below.refl _ _).alloc (Nat.le_refl _) _).trans (I.mono (by simp));obtain⟨Z,c1,c2,c3,c4,K,V⟩:=qB J
  clear I J;go_wp2_with fail;go_ret;exact⟨by rw[E.out];rfl,K⟩
def dY (x y:ByteArray):Int:=if Op.bytesLess x.toList y.toList=true then-1 else if(x.toList==y.toList)=true then 0 else 1
def ex (a b:Gr):Int:=if dY a.fo b.fo=0 then dY a.wh b.wh else dY a.fo b.fo
theorem AY (x y:ByteArray) (w:World):
    Calls prog 211 #[.string x,.string y] w fun e w'=>e= .returned (.int .i64 (dY x y))∧w'=w:=by
 cases f:Op.bytesLess x.toList y.toList with
 |true=>
  have d:=hid (show-1=dY x y from by rw[dY,if_pos f]);go_enter func211,ntmps211
  go_wp2;go_ret;exact⟨aD d.out,rfl⟩
 |false=>
  cases z:(x.toList==y.toList)with
  |true=>
   have d:=hid (show 0=dY x y from by rw[dY,if_neg (by rw[f];decide),if_pos z]);go_enter func211,ntmps211
   go_wp2;go_ret;exact⟨aD d.out,rfl⟩
  |false=>
   have d:=hid (show 1=dY x y from by rw[dY,if_neg (by rw[f];decide),if_neg (by rw[z];decide)]);go_enter func211,ntmps211
   go_wp2;go_ret;exact⟨aD d.out,rfl⟩
theorem AZ (a b:Int) (g:Nat) (w:World) (G:g<w.heap.size) (E:w.cell? ⟨g,0,none⟩=some (.int .i64 a)) (F:w.cell? ⟨g,1,none⟩=some (.int .i64 b)):
    Calls prog 210 #[.slice (some ⟨g,0,none⟩) 2 2] w fun e w'=>e= .returned (.int .i64 (if a=0 then b else a))∧Below w.heap.size w w':=by
 have H:=ak E;have I:=ak F;clear E F;obtain⟨r,A⟩: ∃r,r=if a=0 then b else a:=⟨_,rfl⟩
 rw[←A];have z:=ak A;clear A;go_enter func210,ntmps210
 go_wp2_with fail;go_loopw [8] (fun i wr=>(i= .int .i64 0∨(i= .int .i64 1∧a=0)∨(i= .int .i64 2∧a=0∧b=0))∧Below w.heap.size w wr) (fun i _=>2-(intOf i).toNat)
 case atStart=>exact⟨Or.inl rfl,Below.refl _ _⟩
 case round=>
  obtain⟨J,d⟩:=hrel
  have M:=(d.cell (p:=⟨g,0,none⟩) G).trans H.out;have N:=(d.cell (p:=⟨g,1,none⟩) G).trans I.out;rcases J with rfl|⟨rfl,f⟩|⟨rfl,f,hb⟩
  · by_cases f:a=0
    · subst f
      go_wp2_with fail;go_roundw
      case rel=>exact⟨by simp,d⟩
      case measure=>simp[intOf]
    · have y:=hid (show a=r from by rw[z.out,if_neg f])
      have K:(a==0)=false:=by simpa using f
      go_wp2_with fail;go_ret;exact⟨aD y.out,d⟩
  · subst f
    by_cases hb:b=0
    · subst hb
      go_wp2_with fail;go_roundw
      case rel=>exact⟨by simp,d⟩
      case measure=>simp[intOf]
    · have y:=hid (show b=r from by rw[z.out,if_pos rfl])
      have K:(b==0)=false:=by simpa using hb
      go_wp2_with fail;go_ret;exact⟨aD y.out,d⟩
  · subst f
    subst hb;have y:=hid (show(0:Int)=r from by rw[z.out,if_pos rfl]);go_wp2_with fail;go_ret;exact⟨aD y.out,d⟩
theorem A0 (a b:Gr) (w:World):
    Calls prog 165 #[.agg #[.string a.fo,.string a.wh,.int .i64 a.ri],.agg #[.string b.fo,.string b.wh,.int .i64 b.ri]] w fun e w'=>e= .returned (.int .i64 (ex a b))∧Below w.heap.size w w':=by
 have y:Hid ((if dY a.fo b.fo=0 then dY a.wh b.wh else dY a.fo b.fo)=ex a b):=rfl;go_enter func165,ntmps165
 go_wp2_with fail
 go_region_held3 (fun W=>W.cell? ⟨w.heap.size,0,none⟩=some (.string a.fo)∧W.cell? ⟨w.heap.size,1,none⟩=some (.string a.wh)∧W.cell? ⟨w.heap.size+1,0,none⟩=some (.string b.fo)∧W.cell? ⟨w.heap.size+1,1,none⟩=some (.string b.wh)) (go_keep) (first
  |(go_at_call 211;refine(AY _ _ _).mono ?_;rintro e G ⟨rfl,rfl⟩)
  |(go_at_call 210;go_must (refine(AZ (dY a.fo b.fo) (dY a.wh b.wh) _ _ (by first|(simp;done)|(simp;omega)) (by simp[go_sem]) (by simp[go_sem])).mono ?_);rintro e f ⟨rfl,d⟩;rw[y.out];have z:f.cell? ⟨w.heap.size,0,none⟩=some (.string a.fo):=(d.cell (p:=⟨w.heap.size,0,none⟩) (by simp;omega)).trans (by simp[go_sem]);have A:f.cell? ⟨w.heap.size,1,none⟩=some (.string a.wh):=(d.cell (p:=⟨w.heap.size,1,none⟩) (by simp;omega)).trans (by simp[go_sem]);have E:f.cell? ⟨w.heap.size+1,0,none⟩=some (.string b.fo):=(d.cell (p:=⟨w.heap.size+1,0,none⟩) (by simp)).trans (by simp[go_sem]);have F:f.cell? ⟨w.heap.size+1,1,none⟩=some (.string b.wh):=(d.cell (p:=⟨w.heap.size+1,1,none⟩) (by simp)).trans (by simp[go_sem])))
 all_goals
  go_wp2;go_ret;exact⟨rfl,Below.trans (by go_grown) (d.mono (by simp;omega))⟩
def fE:List Gr→Bool
 |[]=>true
 |[_]=>true
 |a::b::r=>decide (ex a b<0) && fE (b::r)
theorem ou (G:List Gr):fE G=true↔ ∀k (h:k+1<G.length),ex G[k] G[k+1]<0:=by
 match G with
 |[]=>simp[fE]
 |[a]=>simp[fE]
 |a::b::r=>
  rw[fE,Bool.and_eq_true,ou (b::r)];constructor
  · intro ⟨f,y⟩ k d
    match k with
    |0=>simpa using f
    |k+1=>
     have:=y k (by simpa using d)
     simpa using this
  · intro h
    refine⟨by simpa using h 0 (by simp),fun k d=>?_⟩
    have:=h (k+1) (by simpa using d)
    simpa using this
theorem uN {G:List Gr} {k:Nat} (h:k+1<G.length) (f:0≤ex G[k] G[k+1]):fE G=false:=by
 cases d:fE G with
 |false=>rfl
 |true=>
  have:=(ou G).1 d k h
  omega
theorem A1 (G:List Gr) (v:Value) (w:World) (hv:cD w v G) (hn:G.length≤1000):
    Calls prog 132 #[v] w fun e w'=>e= .returned (.bool (fE G))∧Below w.heap.size w w':=by
 obtain⟨a,I0,rfl,T,O,E⟩:=hv
 have Q:Hid (∀i (h:i<G.length),∃b o,a=some ⟨b,o,none⟩∧b<w.heap.size∧fS w b (o+i*3) G[i]):=E;clear E;go_enter func132,ntmps132
 go_wp2_with fail;go_loopw [3] (fun i wr=> ∃m:Nat,(m=0∨m<G.length)∧i= .int .i64 ((m:Int)+1)∧Hid (∀j (h:j+1<G.length),j<m→ex G[j] G[j+1]<0)∧Below w.heap.size w wr) (fun i _=>G.length+2-(intOf i).toNat)
 case atStart=>exact⟨0,Or.inl rfl,rfl,(fun j _ h=>absurd h (Nat.not_lt_zero _): ∀j (h:j+1<G.length),j<0→ex G[j] G[j+1]<0),Below.refl _ _⟩
 case round=>
  obtain⟨m,hk,rfl,S,d⟩:=hrel
  by_cases F:m+1<G.length
  · obtain⟨b,o,rfl,hb,he⟩:=Q.out (m+1) F
    obtain⟨b',o',M,N,P⟩:=Q.out m (by omega)
    cases M
    obtain⟨c0,c1,c2⟩:=he.below hb d
    obtain⟨d0,d1,d2⟩:=P.below N d
    have z:b<wr.heap.size:=Nat.lt_of_lt_of_le hb d.size;have I5:(0:Int)≤(m:Int):=by omega
    have I6:(m:Int)<(G.length:Int):=by omega
    have I7:(m:Int)+1<(G.length:Int):=by omega
    have I8:(0:Int)≤(m:Int)+1:=by omega
    have I9:((m:Int)+1).toNat=m+1:=by omega
    have Iv:IntKind.i64.wrap ((m:Int)+1-1)=(m:Int):=by rw[IntKind.wrap_i64];omega
    have Iw:IntKind.i64.wrap (m:Int)=(m:Int):=by rw[IntKind.wrap_i64];omega
    have U:=ak c0;have V:=ak c1;have X:=ak c2;have Y:=ak d0;have Z:=ak d1;have D2:=ak d2;have I:=hid (show 0≤ex G[m] G[m+1]→false=fE G from fun h=>(uN F h).symm)
    have J:=hid (show ex G[m] G[m+1]<0→ ∀j (h:j+1<G.length),j<m+1→ex G[j] G[j+1]<0 from fun h0 j h1 h2=>by
     by_cases e:j=m
     · subst e;exact h0
     · exact S.out j h1 (by omega))
    generalize G[m]=x at*;generalize G[m+1]=y at*;go_wp2_with fail
    go_region_held3 (fun W=>W.cell? ⟨b,o+m*3,none⟩=some (.string x.fo)∧W.cell? ⟨b,o+m*3+1,none⟩=some (.string x.wh)∧W.cell? ⟨b,o+m*3+2,none⟩=some (.int .i64 x.ri)∧W.cell? ⟨b,o+(m+1)*3,none⟩=some (.string y.fo)∧W.cell? ⟨b,o+(m+1)*3+1,none⟩=some (.string y.wh)∧W.cell? ⟨b,o+(m+1)*3+2,none⟩=some (.int .i64 y.ri)) (go_keep) (first
     |(go_at_call 165;refine(A0 x y _).mono ?_;rintro e wa ⟨rfl,f⟩;have k0:=(f.cell (p:=⟨b,o+m*3,none⟩) z).trans Y.out;have k1:=(f.cell (p:=⟨b,o+m*3+1,none⟩) z).trans Z.out;have k2:=(f.cell (p:=⟨b,o+m*3+2,none⟩) z).trans D2.out;have k3:=(f.cell (p:=⟨b,o+(m+1)*3,none⟩) z).trans U.out;have k4:=(f.cell (p:=⟨b,o+(m+1)*3+1,none⟩) z).trans V.out;have k5:=(f.cell (p:=⟨b,o+(m+1)*3+2,none⟩) z).trans X.out))
    have A:Below w.heap.size w wa:=d.drew.trans (f.mono d.drew.size);by_cases hc:0≤ex x y
    · have H:=ak (I.out hc)
      go_wp2_with fail;go_ret;exact⟨bt H.out,A⟩
    · have K:=ak (J.out (by omega))
      go_wp2_with fail;go_roundw
      case rel=>exact⟨m+1,by omega,by simp,K,A⟩
      case measure=>simp[intOf];omega
  · have H:=hid (show true=fE G from((ou G).2 fun j h=>S.out j h (by omega)).symm)
    go_wp2_with fail;go_ret;exact⟨bt H.out,d⟩
def Cy.ok (c:Cn):Cn:=if bo c=0 then c else oq
theorem uO {c:Cn} (h:bo c=0):Cy.ok c=c:=if_pos h
theorem A2 {c:Cn} (h: ¬bo c=0):Cy.ok c=oq:=if_neg h
theorem mh {c:Cn} (h:bo c=0):eu c.who c.fo=0∧aH c.base=0∧aH c.mine=0∧fV c=false∧ew c.key c.ask.length=0:=by
 unfold bo at h;split at h
 · rename_i d;exact absurd h d
 · rename_i d
   split at h
   · rename_i f;exact absurd h f
   · rename_i f
     split at h
     · rename_i y;exact absurd h y
     · rename_i y
       split at h
       · cases h
       · rename_i z
         exact⟨Classical.not_not.1 d,Classical.not_not.1 f,Classical.not_not.1 y,by simpa using z,h⟩
theorem A3 {key:ByteArray} {n:Nat} (h:ew key n=0):n≤20:=by
 unfold ew at h;split at h
 · cases h
 · split at h
   · cases h
   · split at h
     · cases h
     · omega
theorem A4 {c:Cn} (h:bo c=0):c.base.length≤60∧c.mine.length≤60∧c.ask.length≤20:=by
 obtain⟨_,d,f,_,y⟩:=mh h
 exact⟨((fP _).1 d).len,((fP _).1 f).len,A3 y⟩
theorem A5 (c:Cn) (v:Value) (w:World) (hv:fU w v c) (hs:iO c):
    Calls prog 46 #[v] w fun e w'=> ∃u,e= .returned (.tuple #[u,.int .i64 (bo c)])∧fD w.heap.size w' u (Cy.ok c)∧Below w.heap.size w w':=by
 have HV:=hid hv;have HS:=hid hs;obtain⟨vb,vm,va,rfl,lb,lm,la⟩:=hv
 obtain⟨P,T,rfl,_⟩:=lb
 obtain⟨Q,bh,rfl,_⟩:=lm
 obtain⟨O,S,rfl,_⟩:=la
 clear hs;obtain⟨G,A⟩: ∃G,G=(w.alloc (.cells #[.string c.who,.string c.fo,.slice P c.base.length T,.int .i64 c.cur,.slice Q c.mine.length bh,.string c.key,.slice O c.ask.length S,.int .i64 c.keys] 47)).alloc (.cells #[.string ⟨#[]⟩,.string ⟨#[]⟩,.slice none 0 0,.int .i64 0,.slice none 0 0,.string ⟨#[]⟩,.slice none 0 0,.int .i64 0] 47):=⟨_,rfl⟩
 have M:Below w.heap.size w G:=by rw[A];exact((Below.refl _ _).alloc (Nat.le_refl _) _).alloc (by simp) _
 have U:Hid (Cs G w.heap.size [.string c.who,.string c.fo,.slice P c.base.length T,.int .i64 c.cur,.slice Q c.mine.length bh,.string c.key,.slice O c.ask.length S,.int .i64 c.keys]):=(by rw[A];exact(Cs.new w [.string c.who,.string c.fo,.slice P c.base.length T,.int .i64 c.cur,.slice Q c.mine.length bh,.string c.key,.slice O c.ask.length S,.int .i64 c.keys] _).below ((Below.refl _ _).alloc (Nat.le_refl _) _):Cs G w.heap.size _)
 have H:=hid (show Cs G (w.heap.size+1) zs from by
  have:=Cs.new (w.alloc (.cells #[.string c.who,.string c.fo,.slice P c.base.length T,.int .i64 c.cur,.slice Q c.mine.length bh,.string c.key,.slice O c.ask.length S,.int .i64 c.keys] 47)) zs 47
  rw[A];simpa using this)
 have I8:w.heap.size+1<G.heap.size:=H.out.lt;go_enter func46,ntmps46
 go_wp2_with fail;rw[←A];clear A;refine(qA c _ _ (HV.out.below M) HS.out).mono ?_
 rintro e w1 ⟨rfl,E⟩;have z:=ag M E;have Iv:=E.size;have y:=hid (U.out.below E);have d:=hid (H.out.below E);have I9: ¬w.heap.size=w.heap.size+1:=by omega
 by_cases F:bo c=0
 · have N:=hid F
   have I7:=A4 F;rw[F];clear F;have a0:=y.out.cell 0 rfl;have a1:=y.out.cell 1 rfl;have a2:=y.out.cell 2 rfl;have a3:=y.out.cell 3 rfl;have a4:=y.out.cell 4 rfl;have a5:=y.out.cell 5 rfl;have a6:=y.out.cell 6 rfl;have a7:=y.out.cell 7 rfl;go_wp2_with fail;refine(uK c _ _ (HV.out.below z) (by omega) (by omega) (by omega)).mono ?_
   rintro e w2 ⟨u,rfl,I,K⟩;have J:=ag z K;have f:=hid (d.out.below K);have V:=hid I;obtain⟨vb,vm,va,rfl,⟨I5,_⟩,⟨I6,_⟩,I0,_⟩:=I
   obtain⟨xb,yb,rfl,_⟩:=I5
   obtain⟨xm,ym,rfl,_⟩:=I6
   obtain⟨xa,ya,rfl,_⟩:=I0
   clear a0 a1 a2 a3 a4 a5 a6 a7;have y0:=f.out.cell 0 rfl;have g0:=f.out.fr 0;have y1:=f.out.cell 1 rfl;have g1:=f.out.fr 1;have al:=f.out.cell 2 rfl;have g2:=f.out.fr 2;have y3:=f.out.cell 3 rfl;have g3:=f.out.fr 3;have y4:=f.out.cell 4 rfl;have g4:=f.out.fr 4;have y5:=f.out.cell 5 rfl;have g5:=f.out.fr 5;have y6:=f.out.cell 6 rfl;have g6:=f.out.fr 6;have y7:=f.out.cell 7 rfl;have g7:=f.out.fr 7;go_wp2_with fail;refine bodyPost_ret (v:= .tuple #[.agg #[.string c.who,.string c.fo,.slice xb c.base.length yb,.int .i64 c.cur,.slice xm c.mine.length ym,.string c.key,.slice xa c.ask.length ya,.int .i64 c.keys],.int .i64 0]) (by simp[results,results46,go_sem,y0,y1,al,y3,y4,y5,y6,y7]) rfl ⟨_,by rw[N.out],?_,?_⟩
   · rw[uO N.out]
     exact(V.out.nbo (bj (bj (bj (bj (bj (bj (bj (ar w2 (w.heap.size+1) 0 (.string c.who)) (ar _ (w.heap.size+1) 1 (.string c.fo))) (ar _ (w.heap.size+1) 2 (.slice xb c.base.length yb))) (ar _ (w.heap.size+1) 3 (.int .i64 c.cur))) (ar _ (w.heap.size+1) 4 (.slice xm c.mine.length ym))) (ar _ (w.heap.size+1) 5 (.string c.key))) (ar _ (w.heap.size+1) 6 (.slice xa c.ask.length ya))) (ar _ (w.heap.size+1) 7 (.int .i64 c.keys))) (by omega)).mono (by omega)
   · exact((((((((J.setCell (p:=⟨w.heap.size+1,0,none⟩) (Nat.le_succ _) _).setCell (p:=⟨w.heap.size+1,1,none⟩) (Nat.le_succ _) _).setCell (p:=⟨w.heap.size+1,2,none⟩) (Nat.le_succ _) _).setCell (p:=⟨w.heap.size+1,3,none⟩) (Nat.le_succ _) _).setCell (p:=⟨w.heap.size+1,4,none⟩) (Nat.le_succ _) _).setCell (p:=⟨w.heap.size+1,5,none⟩) (Nat.le_succ _) _).setCell (p:=⟨w.heap.size+1,6,none⟩) (Nat.le_succ _) _).setCell (p:=⟨w.heap.size+1,7,none⟩) (Nat.le_succ _) _)
 · have N:=hid (A2 F)
   have Y:(bo c !=0)=true:=by simpa using F
   obtain⟨r,Z⟩: ∃r,r=bo c:=⟨_,rfl⟩
   rw[←Z]at Y⊢;have X:=hid Z;clear F Z;have y0:=d.out.cell 0 rfl;have g0:=d.out.fr 0;have y1:=d.out.cell 1 rfl;have g1:=d.out.fr 1;have al:=d.out.cell 2 rfl;have g2:=d.out.fr 2;have y3:=d.out.cell 3 rfl;have g3:=d.out.fr 3;have y4:=d.out.cell 4 rfl;have g4:=d.out.fr 4;have y5:=d.out.cell 5 rfl;have g5:=d.out.fr 5;have y6:=d.out.cell 6 rfl;have g6:=d.out.fr 6;have y7:=d.out.cell 7 rfl;have g7:=d.out.fr 7;go_wp2_with fail;refine bodyPost_ret (v:= .tuple #[.agg #[.string ⟨#[]⟩,.string ⟨#[]⟩,.slice none 0 0,.int .i64 0,.slice none 0 0,.string ⟨#[]⟩,.slice none 0 0,.int .i64 0],.int .i64 r]) (by simp[results,results46,go_sem,y0,y1,al,y3,y4,y5,y6,y7]) rfl ⟨_,by rw[X.out],?_,?_⟩
   · rw[N.out]
     exact AV _ _
   · exact((((((((z.setCell (p:=⟨w.heap.size+1,0,none⟩) (Nat.le_succ _) _).setCell (p:=⟨w.heap.size+1,1,none⟩) (Nat.le_succ _) _).setCell (p:=⟨w.heap.size+1,2,none⟩) (Nat.le_succ _) _).setCell (p:=⟨w.heap.size+1,3,none⟩) (Nat.le_succ _) _).setCell (p:=⟨w.heap.size+1,4,none⟩) (Nat.le_succ _) _).setCell (p:=⟨w.heap.size+1,5,none⟩) (Nat.le_succ _) _).setCell (p:=⟨w.heap.size+1,6,none⟩) (Nat.le_succ _) _).setCell (p:=⟨w.heap.size+1,7,none⟩) (Nat.le_succ _) _)
def ie (who fo:ByteArray):Cn:=⟨who,fo,[],0,[],⟨#[]⟩,[],0⟩
theorem A6 (who fo:ByteArray) (w:World):fU w (.agg #[.string who,.string fo,.slice none 0 0,.int .i64 0,.slice none 0 0,.string ⟨#[]⟩,.slice none 0 0,.int .i64 0]) (ie who fo):=
 ⟨_,_,_,rfl,kJ _,kJ _,⟨none,0,rfl,Nat.le_refl _,Nat.zero_le _,fun i h=>absurd h (by simp[ie])⟩⟩
theorem uP {who fo:ByteArray} (f:who.size≤150000000000000) (y:fo.size≤150000000000000):iO (ie who fo):=⟨f,y,Nat.zero_le _,(fun e d=>(by cases d)),(fun e d=>(by cases d))⟩
theorem A7 (who fo:ByteArray) (w:World) (Y:who.size≤150000000000000) (Z:fo.size≤150000000000000):
    Calls prog 16 #[.string who,.string fo] w fun e w'=> ∃u,e= .returned (.tuple #[u,.int .i64 (bo (ie who fo))])∧fD w.heap.size w' u (Cy.ok (ie who fo))∧Below w.heap.size w w':=by
 obtain⟨r,J⟩: ∃r,r=bo (ie who fo):=⟨_,rfl⟩
 have X:=hid J;rw[←J];clear J;obtain⟨G,f⟩: ∃G,G=w.alloc (.cells #[.string ⟨#[]⟩,.string ⟨#[]⟩,.slice none 0 0,.int .i64 0,.slice none 0 0,.string ⟨#[]⟩,.slice none 0 0,.int .i64 0] 47):=⟨_,rfl⟩
 have F:Below w.heap.size w G:=by rw[f];exact(Below.refl _ _).alloc (Nat.le_refl _) _
 have z:=hid (show Cs G w.heap.size zs from by rw[f];exact Cs.new w zs 47);have I0:w.heap.size<G.heap.size:=z.out.lt;go_enter func16,ntmps16
 go_wp2_with fail;rw[←f];clear f;refine(A5 (ie who fo) _ _ (A6 who fo _) (uP Y Z)).mono ?_
 rintro e w2 ⟨u,rfl,y,E⟩;rw[←X.out];have A:=ag F E;have d:=hid (z.out.below E);obtain⟨c,I⟩: ∃c,c=Cy.ok (ie who fo):=⟨_,rfl⟩
 rw[←I]at y;have V:=hid I;clear I;have H:=hid y;obtain⟨vb,vm,va,rfl,⟨M,_⟩,⟨N,_⟩,K,_⟩:=y
 obtain⟨P,T,rfl,_⟩:=M
 obtain⟨Q,U,rfl,_⟩:=N
 obtain⟨O,S,rfl,_⟩:=K
 have y0:=d.out.cell 0 rfl;have g0:=d.out.fr 0;have y1:=d.out.cell 1 rfl;have g1:=d.out.fr 1;have al:=d.out.cell 2 rfl;have g2:=d.out.fr 2;have y3:=d.out.cell 3 rfl;have g3:=d.out.fr 3;have y4:=d.out.cell 4 rfl;have g4:=d.out.fr 4;have y5:=d.out.cell 5 rfl;have g5:=d.out.fr 5;have y6:=d.out.cell 6 rfl;have g6:=d.out.fr 6;have y7:=d.out.cell 7 rfl;have g7:=d.out.fr 7;go_wp2_with fail;refine bodyPost_ret (v:= .tuple #[.agg #[.string c.who,.string c.fo,.slice P c.base.length T,.int .i64 c.cur,.slice Q c.mine.length U,.string c.key,.slice O c.ask.length S,.int .i64 c.keys],.int .i64 r]) (by simp[results,results16,go_sem,y0,y1,al,y3,y4,y5,y6,y7]) rfl ⟨_,rfl,?_,?_⟩
 · rw[←V.out]
   exact(H.out.nbo (bj (bj (bj (bj (bj (bj (bj (ar w2 (w.heap.size) 0 (.string c.who)) (ar _ (w.heap.size) 1 (.string c.fo))) (ar _ (w.heap.size) 2 (.slice P c.base.length T))) (ar _ (w.heap.size) 3 (.int .i64 c.cur))) (ar _ (w.heap.size) 4 (.slice Q c.mine.length U))) (ar _ (w.heap.size) 5 (.string c.key))) (ar _ (w.heap.size) 6 (.slice O c.ask.length S))) (ar _ (w.heap.size) 7 (.int .i64 c.keys))) (by omega)).mono F.size
 · exact((((((((A.setCell (p:=⟨w.heap.size,0,none⟩) (Nat.le_refl _) _).setCell (p:=⟨w.heap.size,1,none⟩) (Nat.le_refl _) _).setCell (p:=⟨w.heap.size,2,none⟩) (Nat.le_refl _) _).setCell (p:=⟨w.heap.size,3,none⟩) (Nat.le_refl _) _).setCell (p:=⟨w.heap.size,4,none⟩) (Nat.le_refl _) _).setCell (p:=⟨w.heap.size,5,none⟩) (Nat.le_refl _) _).setCell (p:=⟨w.heap.size,6,none⟩) (Nat.le_refl _) _).setCell (p:=⟨w.heap.size,7,none⟩) (Nat.le_refl _) _)
end Go.Proofs.YtcmlnelpcjfocaaGreatDoor
