/- Clients: a record that lies in memory; what checkNames, checkAsked and Check answer. -/
import Derived.Test.YtgamnckfmmbjdaaGreatDoorWGI
set_option linter.unusedSimpArgs false
set_option linter.unusedVariables false
namespace Go.Proofs.YtgamnckfmmbjdaaGreatDoor
open Go.RowKit Go.Proofs.Tryz
set_option maxHeartbeats 2000000
set_option maxRecDepth 100000
structure Cn where
 who:ByteArray
 fo:ByteArray
 base:List En
 cur:Int
 mine:List En
 key:ByteArray
 ask:List ar
 keys:Int
def dD (w:World) (v:Value) (c:Cn):Prop:= ∃vb vm va,v= .agg #[.string c.who,.string c.fo,vb,.int .i64 c.cur,vm,.string c.key,va,.int .i64 c.keys]∧aj w vb c.base∧aj w vm c.mine∧bk w va c.ask
theorem dD.below {w w':World} {v:Value} {c:Cn} (h:dD w v c) (a:Below w.heap.size w w'):dD w' v c:=by
 obtain⟨u,y,o,e,d,f,j⟩:=h
 exact⟨u,y,o,e,d.below a,f.below a,j.below a⟩
structure fR (c:Cn):Prop where
 who:c.who.size≤150000000000000
 fo:c.fo.size≤150000000000000
 key:c.key.size≤150000000000000
 base:cP c.base
 mine:cP c.mine
def dm (who fo:ByteArray):Int:=if¬bf [who,fo]=0 then bf [who,fo]else if 10<who.size then 1 else dy who.data.toList
def dp (key:ByteArray) (n:Nat):Int:=if¬key.size=0∧ ¬dy key.data.toList=0 then 1 else if decide (key.size=0)≠decide (n=0)then 4 else if 20<n then 2 else 0
def eb (c:Cn):Bool:=decide (c.cur<0)||decide (1000000<c.cur)||decide (c.keys<0)||decide (1000000<c.keys)
def aU (c:Cn):Int:=if¬dm c.who c.fo=0 then dm c.who c.fo else if¬aA c.base=0 then aA c.base else if¬aA c.mine=0 then aA c.mine else if eb c=true then 3 else dp c.key c.ask.length
theorem uT (who fo:ByteArray) (w:World) (K:who.size≤150000000000000) (J:fo.size≤150000000000000):
    Calls prog 91 #[.string who,.string fo] w fun e w'=>e= .returned (.int .i64 (dm who fo))∧Below w.heap.size w w':=by
 obtain⟨y,f⟩: ∃y,y=w.alloc (.cells #[.string who,.string fo] 9):=⟨_,rfl⟩
 have F:Below w.heap.size w y:=by rw[f];exact(Below.refl _ _).alloc (Nat.le_refl _) _
 have A:=hid (show Cs y w.heap.size [.string who,.string fo]from by rw[f];exact Cs.new _ [.string who,.string fo] _);obtain⟨r,H⟩: ∃r,r=dm who fo:=⟨_,rfl⟩
 rw[←H];have z:=hid H;clear H;go_enter func91,ntmps91
 go_wp2_with fail;rw[←f]
 refine(kj [who,fo] w.heap.size 0 2 y A.out.lt (fun i G=>by
  match i,G with
  |0,_=>show who.size≤_;omega
  |1,_=>show fo.size≤_;omega) (by simp) (fun i G=>by
  match i,G with
  |0,_=>exact A.out.cell 0 rfl
  |1,_=>exact A.out.cell 1 rfl)).mono ?_
 rintro e M ⟨rfl,E⟩;have a:=af F E;by_cases d:bf [who,fo]=0
 · by_cases o:10<who.size
   · have j:=hid (show r=1 from by rw[z.out,dm,if_neg (fun x=>x d),if_pos o])
     have u:10<(who.size:Int):=by omega
     rw[d];go_wp2_with fail;go_ret;exact⟨by rw[j.out];rfl,a⟩
   · have j:=hid (show r=dy who.data.toList from by rw[z.out,dm,if_neg (fun x=>x d),if_neg o])
     have u: ¬10<(who.size:Int):=by omega
     rw[d];go_wp2_with fail;refine(jm who _ (by unfold maxLen;omega)).mono ?_
     rintro e N ⟨rfl,rfl⟩;go_wp2_with fail;go_ret;exact⟨by rw[j.out];rfl,a⟩
 · have j:=hid (show r=bf [who,fo]from by rw[z.out,dm,if_pos d])
   have I:(bf [who,fo] !=0)=true:=by simpa using d
   generalize bf [who,fo]=n at*;clear d;go_wp2_with fail;go_ret;exact⟨by rw[j.out];rfl,a⟩
theorem uU (key:ByteArray) (a:Option Addr) (n cap:Nat) (w:World) (O:key.size≤150000000000000) (P:n≤1000000000000000):
    Calls prog 93 #[.string key,.slice a n cap] w fun e w'=>e= .returned (.int .i64 (dp key n))∧w'=w:=by
 obtain⟨r,H⟩: ∃r,r=dp key n:=⟨_,rfl⟩
 rw[←H];have y:=hid H;clear H;by_cases o:key.size=0
 · have ke:key=⟨#[]⟩:=by
    cases key with
    |mk d=>have h:d.size=0:=o;rw[Array.size_eq_zero_iff.1 h]
   subst ke;by_cases u:n=0
   · subst u
     have f:=hid (show r=0 from y.out);go_enter func93,ntmps93
     go_wp2_with fail;go_ret;exact⟨by rw[f.out];rfl,rfl⟩
   · have f:=hid (show r=4 from by rw[y.out,dp,if_neg (fun h=>h.1 o),if_pos (by rw[decide_eq_true o];simp[u])])
     have N:((n:Int)==0)=false:=by simpa using (by omega: ¬(n:Int)=0)
     clear u o;go_enter func93,ntmps93
     go_wp2_with fail;go_ret;exact⟨by rw[f.out];rfl,rfl⟩
 · have M: ¬key.toList=[]:=by
    rw[Lib.toList_data];intro e;have:key.data.toList.length=key.size:=Array.length_toList
    rw[e]at this;exact o this.symm
   have J:(key.toList==([]:List UInt8))=false:=beq_eq_false_iff_ne.2 M;have K:(key.toList==(⟨#[]⟩:ByteArray).toList)=false:=by rw[Lib.toList_data ⟨#[]⟩];exact J
   by_cases j:dy key.data.toList=0
   · have z: ¬(¬key.size=0∧ ¬dy key.data.toList=0):=fun h=>h.2 j
     by_cases u:n=0
     · subst u
       have f:=hid (show r=4 from by rw[y.out,dp,if_neg z,if_pos (by simp[o])]);clear z;go_enter func93,ntmps93
       go_wp2_with fail;refine(jm key _ (by unfold maxLen;omega)).mono ?_
       rintro e I ⟨rfl,rfl⟩;rw[j];go_wp2_with fail;go_ret;exact⟨by rw[f.out];rfl,rfl⟩
     · have N:((n:Int)==0)=false:=by simpa using (by omega: ¬(n:Int)=0)
       have G: ¬decide (key.size=0)≠decide (n=0):=by simp[o,u]
       by_cases A:20<n
       · have f:=hid (show r=2 from by rw[y.out,dp,if_neg z,if_neg G,if_pos A])
         have E:20<(n:Int):=by omega
         clear z G u;go_enter func93,ntmps93
         go_wp2_with fail;refine(jm key _ (by unfold maxLen;omega)).mono ?_
         rintro e I ⟨rfl,rfl⟩;rw[j];go_wp2_with fail;go_ret;exact⟨by rw[f.out];rfl,rfl⟩
       · have f:=hid (show r=0 from by rw[y.out,dp,if_neg z,if_neg G,if_neg A])
         have E: ¬20<(n:Int):=by omega
         clear z G u;go_enter func93,ntmps93
         go_wp2_with fail;refine(jm key _ (by unfold maxLen;omega)).mono ?_
         rintro e I ⟨rfl,rfl⟩;rw[j];go_wp2_with fail;go_ret;exact⟨by rw[f.out];rfl,rfl⟩
   · have f:=hid (show r=1 from by rw[y.out,dp,if_pos ⟨o,j⟩])
     have F:dy key.data.toList=1:=by
      rw[dy]at j⊢;split
      · rename_i h;rw[if_pos h]at j;exact absurd rfl j
      · rfl
     go_enter func93,ntmps93
     go_wp2_with fail;refine(jm key _ (by unfold maxLen;omega)).mono ?_
     rintro e I ⟨rfl,rfl⟩;rw[F];clear j F;go_wp2_with fail;go_ret;exact⟨by rw[f.out];rfl,rfl⟩
theorem mY (c:Cn) (v:Value) (w:World) (hv:dD w v c) (T:fR c):
    Calls prog 45 #[v] w fun e w'=>e= .returned (.int .i64 (aU c))∧Below w.heap.size w w':=by
 obtain⟨vb,vm,va,rfl,hb,hm,ha⟩:=hv
 have HB:=hid hb;have HM:=hid hm;have HS:=hid T;obtain⟨G,I,rfl,_⟩:=hb
 obtain⟨H,aO,rfl,_⟩:=hm
 obtain⟨aa,ca,rfl,_,CC,_⟩:=ha
 obtain⟨r,hr⟩: ∃r,r=aU c:=⟨_,rfl⟩
 rw[←hr];have HR:=hid hr;have U:=T.who;have CE:=T.fo;have S:=T.key;clear hr T;obtain⟨wz,E⟩: ∃wz,wz=w.alloc (.cells #[.string c.who,.string c.fo,.slice G c.base.length I,.int .i64 c.cur,.slice H c.mine.length aO,.string c.key,.slice aa c.ask.length ca,.int .i64 c.keys] 50):=⟨_,rfl⟩
 have CD:Below w.heap.size w wz:=by rw[E];exact(Below.refl _ _).alloc (Nat.le_refl _) _
 have HX:=hid (show Cs wz w.heap.size [.string c.who,.string c.fo,.slice G c.base.length I,.int .i64 c.cur,.slice H c.mine.length aO,.string c.key,.slice aa c.ask.length ca,.int .i64 c.keys]from by rw[E];exact Cs.new _ [.string c.who,.string c.fo,.slice G c.base.length I,.int .i64 c.cur,.slice H c.mine.length aO,.string c.key,.slice aa c.ask.length ca,.int .i64 c.keys] _);go_enter func45,ntmps45
 go_wp2_with fail;rw[←E];clear E;refine(uT c.who c.fo _ U CE).mono ?_
 rintro e V ⟨rfl,P⟩;have F:=af CD P;have y:=hid (HX.out.below P);by_cases J:dm c.who c.fo=0
 · have HN:=hid J
   rw[J];clear J;have x2:=y.out.cell 2 rfl;have x4:=y.out.cell 4 rfl;have CF:=y.out.lt;have CH: ¬w.heap.size=V.heap.size:=by omega
   obtain⟨K,A⟩: ∃K,K=V.alloc (.cells #[.slice G c.base.length I,.slice H c.mine.length aO] 47):=⟨_,rfl⟩
   have Q:Below V.heap.size V K:=by rw[A];exact(Below.refl _ _).alloc (Nat.le_refl _) _
   have HY:=hid (show Cs K V.heap.size [.slice G c.base.length I,.slice H c.mine.length aO]from by rw[A];exact Cs.new _ [.slice G c.base.length I,.slice H c.mine.length aO] _);have C4:=hid (y.out.below Q);have O:=af F Q;go_wp2_with fail;rw[←A];clear A x2 x4;go_loopw [21] (fun x wr=> ∃k:Nat,k≤2∧x= .int .i64 k∧Hid (1≤k→aA c.base=0)∧Hid (2≤k→aA c.mine=0)∧Below K.heap.size K wr) (fun x _=>2-(intOf x).toNat)
   case atStart=>exact⟨0,by omega,rfl,(fun h=>absurd h (by omega):1≤0→aA c.base=0),(fun h=>absurd h (by omega):2≤0→aA c.mine=0),Below.refl _ _⟩
   case round=>
    obtain⟨k,hk,rfl,Z,H2,o⟩:=hrel
    have a:=af O o;have N:=hid (HY.out.below o);have z:=hid (C4.out.below o);have X:=N.out.cell 0 rfl;have Y:=N.out.cell 1 rfl;rcases(by omega:k=0∨k=1∨k=2)with rfl|rfl|rfl
    · go_wp2_with fail
      refine(gT c.base _ _ (HB.out.below a) HS.out.base).mono ?_
      rintro e w2 ⟨rfl,j⟩;have u:=af o j;have f:=af a j;by_cases ae:aA c.base=0
      · have d:=hid ae
        rw[ae];clear ae X Y;go_wp2_with fail;go_roundw
        case rel=>exact⟨1,by omega,rfl,(fun _=>d.out:1≤1→aA c.base=0),(fun h=>absurd h (by omega):2≤1→aA c.mine=0),u⟩
        case measure=>simp[intOf]
      · have d:=hid (show r=aA c.base from by rw[HR.out,aU,if_neg (fun x=>x HN.out),if_pos ae])
        have C9:(aA c.base !=0)=true:=by simpa using ae
        clear X Y ae;go_wp2_with fail;go_ret;exact⟨by rw[d.out];rfl,f⟩
    · go_wp2_with fail
      refine(gT c.mine _ _ (HM.out.below a) HS.out.mine).mono ?_
      rintro e w2 ⟨rfl,j⟩;have u:=af o j;have f:=af a j;by_cases ae:aA c.mine=0
      · have d:=hid ae
        have C3:=hid (Z.out (by omega));rw[ae];clear ae X Y;go_wp2_with fail;go_roundw
        case rel=>exact⟨2,by omega,rfl,(fun _=>C3.out:1≤2→aA c.base=0),(fun _=>d.out:2≤2→aA c.mine=0),u⟩
        case measure=>simp[intOf]
      · have d:=hid (show r=aA c.mine from by rw[HR.out,aU,if_neg (fun x=>x HN.out),if_neg (fun x=>x (Z.out (by omega))),if_pos ae])
        have C9:(aA c.mine !=0)=true:=by simpa using ae
        clear X Y ae;go_wp2_with fail;go_ret;exact⟨by rw[d.out];rfl,f⟩
    · have M:=hid (show r=if eb c=true then 3 else dp c.key c.ask.length from by rw[HR.out,aU,if_neg (fun x=>x HN.out),if_neg (fun x=>x (Z.out (by omega))),if_neg (fun x=>x (H2.out (by omega)))])
      have x3:=z.out.cell 3 rfl;have x7:=z.out.cell 7 rfl;have x5:=z.out.cell 5 rfl;have x6:=z.out.cell 6 rfl;clear X Y Z H2;have stop:eb c=true→Hid (r=3):=fun h=>(by rw[M.out,if_pos h]:r=3)
      by_cases g1:c.cur<0
      · have d:=stop (by simp[eb,g1])
        clear stop;go_wp2_with fail;go_ret;exact⟨by rw[d.out];rfl,a⟩
      · have C5:decide (c.cur<0)=false:=decide_eq_false g1
        by_cases g2:1000000<c.cur
        · have d:=stop (by simp[eb,g2])
          clear stop;go_wp2_with fail;go_ret;exact⟨by rw[d.out];rfl,a⟩
        · have C6:decide (1000000<c.cur)=false:=decide_eq_false g2
          by_cases g3:c.keys<0
          · have d:=stop (by simp[eb,g3])
            clear stop;go_wp2_with fail;go_ret;exact⟨by rw[d.out];rfl,a⟩
          · have C7:decide (c.keys<0)=false:=decide_eq_false g3
            by_cases g4:1000000<c.keys
            · have d:=stop (by simp[eb,g4])
              clear stop;go_wp2_with fail;go_ret;exact⟨by rw[d.out];rfl,a⟩
            · have C8:decide (1000000<c.keys)=false:=decide_eq_false g4
              have d:=hid (show r=dp c.key c.ask.length from by rw[M.out,if_neg (by rw[eb,C5,C6,C7,C8];decide)]);clear stop;go_wp2_with fail;refine(uU c.key aa c.ask.length ca _ S CC).mono ?_
              rintro e w2 ⟨rfl,rfl⟩;rw[←d.out];go_wp2_with fail;go_ret;exact⟨rfl,a⟩
 · have d:=hid (show r=dm c.who c.fo from by rw[HR.out,aU,if_pos J])
   have CG:(dm c.who c.fo !=0)=true:=by simpa using J
   generalize dm c.who c.fo=n at*;clear J;go_wp2_with fail;go_ret;exact⟨by rw[d.out];rfl,F⟩
structure Se where
 nu:Int
 wh:ByteArray
 tx:ByteArray
 si:Int
 ti:Int
def eu (w:World) (b o:Nat) (s:Se):Prop:=w.cell? ⟨b,o,none⟩=some (.int .i64 s.nu)∧w.cell? ⟨b,o+1,none⟩=some (.string s.wh)∧w.cell? ⟨b,o+2,none⟩=some (.string s.tx)∧w.cell? ⟨b,o+3,none⟩=some (.int .i64 s.si)∧w.cell? ⟨b,o+4,none⟩=some (.int .i64 s.ti)
def bR (w:World) (v:Value) (G:List Se):Prop:= ∃a cap,v= .slice a G.length cap∧G.length≤cap∧G.length≤1000000000000000∧ ∀i (h:i<G.length),∃b o,a=some ⟨b,o,none⟩∧b<w.heap.size∧eu w b (o+i*5) G[i]
theorem eu.below {w w':World} {b o:Nat} {g:Se} (h:eu w b o g) (hb:b<w.heap.size) (a:Below w.heap.size w w'):eu w' b o g:=
 ⟨(a.cell (p:=⟨b,o,none⟩) hb).trans h.1,(a.cell (p:=⟨b,o+1,none⟩) hb).trans h.2.1,(a.cell (p:=⟨b,o+2,none⟩) hb).trans h.2.2.1,(a.cell (p:=⟨b,o+3,none⟩) hb).trans h.2.2.2.1,(a.cell (p:=⟨b,o+4,none⟩) hb).trans h.2.2.2.2⟩
theorem bR.below {w w':World} {v:Value} {G:List Se} (h:bR w v G) (e:Below w.heap.size w w'):bR w' v G:=by
 obtain⟨a,d,E,f,j,u⟩:=h
 refine⟨a,d,E,f,j,fun i A=>?_⟩
 obtain⟨b,o,y,hb,z⟩:=u i A
 exact⟨b,o,y,Nat.lt_of_lt_of_le hb e.size,z.below hb e⟩
theorem uV (w:World):bR w (.slice none 0 0) []:=⟨none,0,rfl,Nat.le_refl _,by decide,fun i h=>absurd h (by simp)⟩
def jv (G:List Se):Prop:= ∀g∈G,g.wh.size≤150000000000000∧g.tx.size≤150000000000000
theorem fS {w e:World} {a b c d:Value} {T:TypeId} (h:Below (w.alloc (.cells #[a,b,c,d] T)).heap.size (w.alloc (.cells #[a,b,c,d] T)) e):
    e.cell? ⟨w.heap.size,0,none⟩=some a∧e.cell? ⟨w.heap.size,1,none⟩=some b∧e.cell? ⟨w.heap.size,2,none⟩=some c∧e.cell? ⟨w.heap.size,3,none⟩=some d∧Below w.heap.size w e∧w.heap.size<e.heap.size:=by
 have f:w.heap.size<(w.alloc (.cells #[a,b,c,d] T)).heap.size:=by simp
 refine⟨?_,?_,?_,?_,((Below.refl _ _).alloc (Nat.le_refl _) _).trans (h.mono (Nat.le_of_lt f)),Nat.lt_of_lt_of_le f h.size⟩
 · exact(h.cell (p:=⟨w.heap.size,0,none⟩) f).trans (by simp)
 · exact(h.cell (p:=⟨w.heap.size,1,none⟩) f).trans (by simp)
 · exact(h.cell (p:=⟨w.heap.size,2,none⟩) f).trans (by simp)
 · exact(h.cell (p:=⟨w.heap.size,3,none⟩) f).trans (by simp)
theorem mZ {w f:World} {a b c d e:Value} {T:TypeId} (h:Below (w.alloc (.cells #[a,b,c,d,e] T)).heap.size (w.alloc (.cells #[a,b,c,d,e] T)) f):
    f.cell? ⟨w.heap.size,0,none⟩=some a∧f.cell? ⟨w.heap.size,1,none⟩=some b∧f.cell? ⟨w.heap.size,2,none⟩=some c∧f.cell? ⟨w.heap.size,3,none⟩=some d∧f.cell? ⟨w.heap.size,4,none⟩=some e∧Below w.heap.size w f∧w.heap.size<f.heap.size:=by
 have j:w.heap.size<(w.alloc (.cells #[a,b,c,d,e] T)).heap.size:=by simp
 refine⟨?_,?_,?_,?_,?_,((Below.refl _ _).alloc (Nat.le_refl _) _).trans (h.mono (Nat.le_of_lt j)),Nat.lt_of_lt_of_le j h.size⟩
 · exact(h.cell (p:=⟨w.heap.size,0,none⟩) j).trans (by simp)
 · exact(h.cell (p:=⟨w.heap.size,1,none⟩) j).trans (by simp)
 · exact(h.cell (p:=⟨w.heap.size,2,none⟩) j).trans (by simp)
 · exact(h.cell (p:=⟨w.heap.size,3,none⟩) j).trans (by simp)
 · exact(h.cell (p:=⟨w.heap.size,4,none⟩) j).trans (by simp)
def aS (l n m:Int):Bool:=decide (l≤n) && decide (n≤m)
theorem ln {l n m:Int} (h:aS l n m=true):l≤n∧n≤m:=by simpa[aS]using h
def dq (n:Nat) (x l r:Int):Int:=if(aS 1 l 1000000 && aS 0 r 100000 && aS 1 x 1099511627776)=true then(if 20<n then 2 else 0)else 3
theorem nd (n:Nat) (x l r:Int):(aS 1 l 1000000=false∧dq n x l r=3)∨(aS 1 l 1000000=true∧aS 0 r 100000=false∧dq n x l r=3)∨(aS 1 l 1000000=true∧aS 0 r 100000=true∧aS 1 x 1099511627776=false∧dq n x l r=3)∨
    (aS 1 l 1000000=true∧aS 0 r 100000=true∧aS 1 x 1099511627776=true∧20<n∧dq n x l r=2)∨(aS 1 l 1000000=true∧aS 0 r 100000=true∧aS 1 x 1099511627776=true∧ ¬20<n∧dq n x l r=0):=by
 cases a:aS 1 l 1000000<;>cases d:aS 0 r 100000<;>cases e:aS 1 x 1099511627776<;>by_cases f:20<n<;>simp[dq,a,d,e,f]
def bM (x:Int) (s:Se):Int:=if(aS 1 s.nu (x-1) && aS 0 s.si 300 && aS 0 s.ti 2199023255552)=true then(if az s.wh.data.toList=true then(if s.si<(s.tx.size:Int)then 2 else 0)else 1)else 3
theorem nf (x:Int) (s:Se):(aS 1 s.nu (x-1)=false∧bM x s=3)∨(aS 1 s.nu (x-1)=true∧aS 0 s.si 300=false∧bM x s=3)∨(aS 1 s.nu (x-1)=true∧aS 0 s.si 300=true∧aS 0 s.ti 2199023255552=false∧bM x s=3)∨
    (aS 1 s.nu (x-1)=true∧aS 0 s.si 300=true∧aS 0 s.ti 2199023255552=true∧az s.wh.data.toList=false∧bM x s=1)∨(aS 1 s.nu (x-1)=true∧aS 0 s.si 300=true∧aS 0 s.ti 2199023255552=true∧az s.wh.data.toList=true∧s.si<(s.tx.size:Int)∧bM x s=2)∨
    (aS 1 s.nu (x-1)=true∧aS 0 s.si 300=true∧aS 0 s.ti 2199023255552=true∧az s.wh.data.toList=true∧ ¬s.si<(s.tx.size:Int)∧bM x s=0):=by
 cases a:aS 1 s.nu (x-1)<;>cases d:aS 0 s.si 300<;>cases e:aS 0 s.ti 2199023255552<;>cases j:az s.wh.data.toList<;>by_cases f:s.si<(s.tx.size:Int)<;>simp[bM,a,d,e,f,j]
theorem uW {s:ByteArray} {b:Bool} (h:az s.data.toList=b):bf [s]=if b=true then 0 else 1:=by simp[bf,h]
theorem ev (l n m:Int) (w:World):Calls prog 103 #[.int .i64 l,.int .i64 n,.int .i64 m] w fun e w'=>e= .returned (.bool (aS l n m))∧w'=w:=by
 by_cases h:l≤n
 · have a:=hid (show decide (n≤m)=aS l n m from by rw[aS,decide_eq_true h];rfl)
   go_enter func103,ntmps103
   go_wp2;go_ret;exact⟨aV a.out,rfl⟩
 · have a:=hid (show false=aS l n m from by rw[aS,decide_eq_false h];rfl)
   go_enter func103,ntmps103
   go_wp2;go_ret;exact⟨aV a.out,rfl⟩
theorem pY (G:List Se) (v:Value) (x l r:Int) (w:World) (N:bR w v G):
    Calls prog 53 #[.agg #[v,.int .i64 x,.int .i64 l,.int .i64 r]] w fun e w'=>e= .returned (.int .i64 (dq G.length x l r))∧Below w.heap.size w w':=by
 obtain⟨a,F,rfl,J,I,_⟩:=N
 have u:Below w.heap.size w (w.alloc (.cells #[.slice a G.length F,.int .i64 x,.int .i64 l,.int .i64 r] 26)):=(Below.refl _ _).alloc (Nat.le_refl _) _;rcases nd G.length x l r with⟨j,ae⟩|⟨j,o,ae⟩|⟨j,o,A,ae⟩|⟨j,o,A,M,ae⟩|⟨j,o,A,M,ae⟩
 · have z:=ai ae
   have y:=ai j;clear ae j;go_enter func53,ntmps53
   go_wp2_with fail;refine(ev 1 l 1000000 _).mono ?_
   rintro e f ⟨rfl,d⟩;rw[d,y.out];clear d f;go_wp2;go_ret;exact⟨by rw[z.out];rfl,u⟩
 · have z:=ai ae
   have y:=ai j;have E:=ai o;clear ae j o;go_enter func53,ntmps53
   go_wp2_with fail;refine(ev 1 l 1000000 _).mono ?_
   rintro e f ⟨rfl,d⟩;rw[d,y.out];clear d f;go_wp2_with fail;refine(ev 0 r 100000 _).mono ?_
   rintro e f ⟨rfl,d⟩;rw[d,E.out];clear d f;go_wp2;go_ret;exact⟨by rw[z.out];rfl,u⟩
 all_goals
  have z:=ai ae;have y:=ai j;have E:=ai o;have K:=ai A;try (have H:20<(G.length:Int):=by omega)
  try (have H: ¬20<(G.length:Int):=by omega)
  clear ae j o A;go_enter func53,ntmps53
  go_wp2_with fail;refine(ev 1 l 1000000 _).mono ?_
  rintro e f ⟨rfl,d⟩;rw[d,y.out];clear d f;go_wp2_with fail;refine(ev 0 r 100000 _).mono ?_
  rintro e f ⟨rfl,d⟩;rw[d,E.out];clear d f;go_wp2_with fail;refine(ev 1 x 1099511627776 _).mono ?_
  rintro e f ⟨rfl,d⟩;rw[d,K.out];clear d f;go_wp2;go_ret;exact⟨by rw[z.out];rfl,u⟩
theorem pZ (s:Se) (x:Int) (w:World) (S:1≤x) (T:x≤1099511627776) (P:s.wh.size≤150000000000000):
    Calls prog 54 #[.agg #[.int .i64 s.nu,.string s.wh,.string s.tx,.int .i64 s.si,.int .i64 s.ti],.int .i64 x] w fun e w'=>e= .returned (.int .i64 (bM x s))∧Below w.heap.size w w':=by
 have z:Below w.heap.size w (w.alloc (.cells #[.int .i64 s.nu,.string s.wh,.string s.tx,.int .i64 s.si,.int .i64 s.ti] 125)):=(Below.refl _ _).alloc (Nat.le_refl _) _;rcases nf x s with⟨f,ae⟩|⟨f,j,ae⟩|⟨f,j,y,ae⟩|⟨f,j,y,I,ae⟩|⟨f,j,y,I,O,ae⟩|⟨f,j,y,I,O,ae⟩
 · have u:=ai ae
   have o:=ai f;clear ae f;go_enter func54,ntmps54
   go_wp2_with fail;refine(ev 1 s.nu (x-1) _).mono ?_
   rintro e d ⟨rfl,a⟩;rw[a,o.out];clear a d;go_wp2;go_ret;exact⟨by rw[u.out];rfl,z⟩
 · have u:=ai ae
   have o:=ai f;have A:=ai j;clear ae f j;go_enter func54,ntmps54
   go_wp2_with fail;refine(ev 1 s.nu (x-1) _).mono ?_
   rintro e d ⟨rfl,a⟩;rw[a,o.out];clear a d;go_wp2_with fail;refine(ev 0 s.si 300 _).mono ?_
   rintro e d ⟨rfl,a⟩;rw[a,A.out];clear a d;go_wp2;go_ret;exact⟨by rw[u.out];rfl,z⟩
 · have u:=ai ae
   have o:=ai f;have A:=ai j;have K:=ai y;clear ae f j y;go_enter func54,ntmps54
   go_wp2_with fail;refine(ev 1 s.nu (x-1) _).mono ?_
   rintro e d ⟨rfl,a⟩;rw[a,o.out];clear a d;go_wp2_with fail;refine(ev 0 s.si 300 _).mono ?_
   rintro e d ⟨rfl,a⟩;rw[a,A.out];clear a d;go_wp2_with fail;refine(ev 0 s.ti 2199023255552 _).mono ?_
   rintro e d ⟨rfl,a⟩;rw[a,K.out];clear a d;go_wp2;go_ret;exact⟨by rw[u.out];rfl,z⟩
 all_goals
  have u:=ai ae;have o:=ai f;have A:=ai j;have K:=ai y;have N:=ai (uW I);have H: ∀i (J:i<[s.wh].length),([s.wh][i]).size≤1000000000000000:=fun i J=>by match i,J with|0,_=>exact Nat.le_trans P (by decide)
  have M:=ai H;clear ae f j y I H;go_enter func54,ntmps54
  go_wp2_with fail;refine(ev 1 s.nu (x-1) _).mono ?_
  rintro e d ⟨rfl,a⟩;rw[a,o.out];clear a d;go_wp2_with fail;refine(ev 0 s.si 300 _).mono ?_
  rintro e d ⟨rfl,a⟩;rw[a,A.out];clear a d;go_wp2_with fail;refine(ev 0 s.ti 2199023255552 _).mono ?_
  rintro e d ⟨rfl,a⟩;rw[a,K.out];clear a d;go_wp2_with fail;refine(kj [s.wh] (w.heap.size+1) 0 1 _ (by simp) M.out (by simp) (fun i J=>by match i,J with|0,_=>simp)).mono ?_
  rintro e d ⟨rfl,E⟩;rw[N.out];have F:Below (w.alloc (.cells #[.int .i64 s.nu,.string s.wh,.string s.tx,.int .i64 s.si,.int .i64 s.ti] 125)).heap.size (w.alloc (.cells #[.int .i64 s.nu,.string s.wh,.string s.tx,.int .i64 s.si,.int .i64 s.ti] 125)) d:=((Below.refl _ _).alloc (Nat.le_refl _) _).trans (E.mono (by simp));obtain⟨U,V,X,Y,Z,G,Q⟩:=mZ F
  clear E F;go_wp2_with fail;go_ret;exact⟨by rw[u.out];rfl,G⟩
def eK:List Se→Bool
 |[]=>true
 |[_]=>true
 |a::b::r=>decide (a.nu<b.nu) && eK (b::r)
theorem ng: ∀{G:List Se} {k:Nat} (h:k+1<G.length),¬(G[k]).nu<(G[k+1]).nu→eK G=false
 |[],k,h,_=>absurd h (by simp)
 |[_],k,h,_=>absurd h (by simp)
 |a::b::r,0,h,hk=>by
  have d: ¬a.nu<b.nu:=hk;rw[eK,decide_eq_false d];rfl
 |a::b::r,k+1,h,hk=>by
  have:=ng (G:=b::r) (k:=k) (by simpa using h) hk
  rw[eK,this,Bool.and_false]
theorem nh: ∀{G:List Se},(∀k (h:k+1<G.length),(G[k]).nu<(G[k+1]).nu)→eK G=true
 |[],_=>rfl
 |[_],_=>rfl
 |a::b::r,h=>by
  have d:a.nu<b.nu:=h 0 (by simp);rw[eK,decide_eq_true d,nh (G:=b::r) fun k e=>h (k+1) (by simpa using e)];rfl
def aT:List Se→ByteArray→Int
 |[],_=>0
 |s::r,p=>(if(s.wh.toList==p.toList)=true then s.si else 0)+aT r p
theorem ni: ∀(L:List Se) (s:Se) (p:ByteArray),aT (L++[s]) p=aT L p+(if(s.wh.toList==p.toList)=true then s.si else 0)
 |[],s,p=>by simp[aT]
 |a::r,s,p=>by rw[List.cons_append,aT,aT,ni r s p];omega
theorem nj: ∀{L:List Se} (p:ByteArray),(∀s∈L,0≤s.si∧s.si≤300)→0≤aT L p∧aT L p≤300*L.length
 |[],p,_=>by simp[aT]
 |a::r,p,h=>by
  have e:=h a (by simp);have f:=nj (L:=r) p fun s d=>h s (by simp[d])
  rw[aT,List.length_cons];split<;>omega
def fA (L:List Se) (room:Int):Int:=if(L.all fun s=>decide (aT L s.wh≤room))=true then 0 else 10
theorem p9 {L:List Se} {a:Int} {k:Nat} (h:k<L.length) (e:a<aT L (L[k]).wh):10=fA L a:=by
 rw[fA,if_neg];rw[List.all_eq_true];intro d;have:=of_decide_eq_true (d L[k] (List.getElem_mem h))
 omega
theorem qb {L:List Se} {a:Int} (h: ∀j (h:j<L.length),aT L (L[j]).wh≤a):0=fA L a:=by
 rw[fA,if_pos];rw[List.all_eq_true];intro x e;obtain⟨j,d,rfl⟩:=List.getElem_of_mem e
 exact decide_eq_true (h j d)
def dE (x:Int):List Se→Int
 |[]=>0
 |g::r=>if bM x g=0 then dE x r else bM x g
theorem nk {x:Int}: ∀{G:List Se} {k:Nat} (a:k<G.length),(∀j (h:j<G.length),j<k→bM x G[j]=0)→ ¬bM x G[k]=0→dE x G=bM x G[k]
 |[],k,a,_,_=>absurd a (by simp)
 |g::r,0,_,_,hk=>by rw[dE,if_neg (show¬bM x g=0 from hk)];rfl
 |g::r,k+1,a,h,hk=>by
  rw[dE,if_pos (show bM x g=0 from h 0 (by simp) (by omega))];have:=nk (G:=r) (k:=k) (by simpa using a) (fun j d e=>h (j+1) (by simpa using d) (by omega)) hk
  rw[this];rfl
theorem nl {x:Int}: ∀{G:List Se},(∀j (h:j<G.length),bM x G[j]=0)→dE x G=0
 |[],_=>rfl
 |g::r,h=>by
  rw[dE,if_pos (show bM x g=0 from h 0 (by simp))];exact nl fun j a=>h (j+1) (by simpa using a)
theorem uX {x:Int} {G:List Se}:dE x G=0↔ ∀g∈G,bM x g=0:=by
 induction G with
 |nil=>simp[dE]
 |cons g r ih=>
  rw[dE];by_cases h:bM x g=0
  · rw[if_pos h,ih];simp[h]
  · rw[if_neg h];simp[h]
theorem uY {x:Int} {s:Se} (h:bM x s=0):aS 1 s.nu (x-1)=true∧aS 0 s.si 300=true∧aS 0 s.ti 2199023255552=true∧az s.wh.data.toList=true∧(s.tx.size:Int)≤s.si:=by
 rcases nf x s with⟨a,ae⟩|⟨a,d,ae⟩|⟨a,d,e,ae⟩|⟨a,d,e,f,ae⟩|⟨a,d,e,f,j,ae⟩|⟨a,d,e,f,j,ae⟩
 · rw[h]at ae;cases ae
 · rw[h]at ae;cases ae
 · rw[h]at ae;cases ae
 · rw[h]at ae;cases ae
 · rw[h]at ae;cases ae
 · exact⟨a,d,e,f,by omega⟩
theorem qd {x:Int} {G:List Se} (h:dE x G=0): ∀s∈G,0≤s.si∧s.si≤300:=fun s a=>ln (uY (uX.1 h s a)).2.1
def aZ (G:List Se) (x l r:Int):Int:=if¬dq G.length x l r=0 then dq G.length x l r else if¬dE x G=0 then dE x G else if eK G=false then 4 else fA G r
theorem jw {G:List Se} {x l r:Int} (h: ¬dq G.length x l r=0):aZ G x l r=dq G.length x l r:=if_pos h
theorem np {G:List Se} {x l r:Int} (h:dq G.length x l r=0) (a: ¬dE x G=0):aZ G x l r=dE x G:=by rw[aZ,if_neg (fun k=>k h),if_pos a]
theorem nr {G:List Se} {x l r:Int} (h:dq G.length x l r=0) (a:dE x G=0) (d:eK G=false):aZ G x l r=4:=by rw[aZ,if_neg (fun k=>k h),if_neg (fun k=>k a),if_pos d]
theorem nt {G:List Se} {x l r:Int} (h:dq G.length x l r=0) (a:dE x G=0) (d:eK G=true):aZ G x l r=fA G r:=by rw[aZ,if_neg (fun k=>k h),if_neg (fun k=>k a),if_neg (by rw[d];decide)]
theorem lo {n:Nat} {x l r:Int} (h:dq n x l r=0):n≤20∧(1≤l∧l≤1000000)∧(0≤r∧r≤100000)∧(1≤x∧x≤1099511627776):=by
 rcases nd n x l r with⟨a,ae⟩|⟨a,d,ae⟩|⟨a,d,e,ae⟩|⟨a,d,e,f,ae⟩|⟨a,d,e,f,ae⟩
 · rw[h]at ae;cases ae
 · rw[h]at ae;cases ae
 · rw[h]at ae;cases ae
 · rw[h]at ae;cases ae
 · exact⟨by omega,ln a,ln d,ln e⟩
theorem qe (G:List Se) (v:Value) (w:World) (V:bR w v G):
    Calls prog 55 #[v] w fun e w'=>e= .returned (.bool (eK G))∧Below w.heap.size w w':=by
 obtain⟨a,S,rfl,N,H,u⟩:=V
 have J:Hid (∀i (h:i<G.length),∃b o,a=some ⟨b,o,none⟩∧b<w.heap.size∧eu w b (o+i*5) G[i]):=u;clear u;obtain⟨r,I⟩: ∃r,r=eK G:=⟨_,rfl⟩
 rw[←I];have M:=ai I;clear I;go_enter func55,ntmps55
 go_wp2_with fail;go_loopw [3] (fun i wr=> ∃k:Nat,(k≤G.length∨k=1)∧1≤k∧i= .int .i64 k∧Hid (∀j (h:j+1<G.length),j+1<k→(G[j]).nu<(G[j+1]).nu)∧Below w.heap.size w wr) (fun i _=>G.length-(intOf i).toNat)
 case atStart=>exact⟨1,Or.inr rfl,Nat.le_refl _,rfl,(fun j _ h=>absurd h (by omega): ∀j (h:j+1<G.length),j+1<1→(G[j]).nu<(G[j+1]).nu),Below.refl _ _⟩
 case round=>
  obtain⟨k,hk,U,rfl,K,d⟩:=hrel
  obtain⟨m,rfl⟩: ∃m,k=m+1:=⟨k-1,by omega⟩
  by_cases z:m+1<G.length
  · obtain⟨b,o,rfl,hb,O⟩:=J.out m (by omega)
    obtain⟨Y,_⟩:=O.below hb d
    obtain⟨Q,X,f,F,y⟩:=J.out (m+1) z
    obtain⟨rfl,rfl⟩:Q=b∧X=o:=by simp at f;exact⟨f.1.symm,f.2.symm⟩
    obtain⟨Z,_⟩:=y.below F d
    clear O y f;by_cases P:(G[m]).nu<(G[m+1]).nu
    · have E:=hid (show∀j (h:j+1<G.length),j+1<m+1+1→(G[j]).nu<(G[j+1]).nu from fun j T h2=>by
       by_cases e:j=m
       · subst e;exact P
       · exact K.out j T (by omega))
      generalize (G[m]).nu=p at*;generalize (G[m+1]).nu=q at*;go_wp2_with fail;go_region
      go_wp2_with fail;go_roundw
      case rel=>exact⟨m+1+1,by omega,by omega,by simp,E,d.drew⟩
      case measure=>simp[intOf];omega
    · have A:=hid (show false=r from by rw[M.out];exact(ng z P).symm)
      generalize (G[m]).nu=p at*;generalize (G[m+1]).nu=q at*;go_wp2_with fail;go_region
      go_wp2_with fail;go_ret;exact⟨aV A.out,d.drew⟩
  · have A:=hid (show true=r from by rw[M.out];exact(nh fun j h=>K.out j h (by omega)).symm)
    go_wp2_with fail;go_ret;exact⟨aV A.out,d⟩
theorem uZ (G:List Se) (v:Value) (p:ByteArray) (w:World) (Q:bR w v G) (hn:G.length≤1000) (A: ∀s∈G,0≤s.si∧s.si≤300):
    Calls prog 105 #[v,.string p] w fun e w'=>e= .returned (.int .i64 (aT G p))∧Below w.heap.size w w':=by
 obtain⟨a,O,rfl,F,z,y⟩:=Q
 have K:Hid (∀i (h:i<G.length),∃b o,a=some ⟨b,o,none⟩∧b<w.heap.size∧eu w b (o+i*5) G[i]):=y;have M:=hid (show∀i (h:i<G.length),0≤(G[i]).si∧(G[i]).si≤300 from fun i h=>A _ (List.getElem_mem h))
 have N:=hid (show∀k,0≤aT (G.take k) p∧aT (G.take k) p≤300*G.length from fun k=>by
  have Z:=nj (L:=G.take k) p fun s E=>A s (List.mem_of_mem_take E)
  have h2:(G.take k).length≤G.length:=by rw[List.length_take];omega
  omega)
 clear y A;go_enter func105,ntmps105
 go_wp2_with fail;go_loopw [5,10] (fun t i wr=> ∃k:Nat,k≤G.length∧i= .int .i64 k∧t= .int .i64 (aT (G.take k) p)∧Below w.heap.size w wr) (fun _ i _=>G.length-(intOf i).toNat)
 case atStart=>exact⟨0,Nat.zero_le _,rfl,rfl,Below.refl _ _⟩
 case round=>
  obtain⟨k,hk,rfl,rfl,d⟩:=hrel
  by_cases u:k<G.length
  · obtain⟨b,o,rfl,hb,H⟩:=K.out k u
    obtain⟨S,U,V,X,Y⟩:=H.below hb d
    obtain⟨s1,s2⟩:=M.out k u
    obtain⟨t1,t2⟩:=N.out k
    have f:aT (G.take (k+1)) p=aT (G.take k) p+(if((G[k]).wh.toList==p.toList)=true then(G[k]).si else 0):=by rw[List.take_succ_eq_append_getElem u,ni]
    have P:=d.size;clear H;generalize G[k]=s at*;generalize aT (G.take k) p=T at*;cases I:(s.wh.toList==p.toList)with
    |true=>
     have j:=hid (show aT (G.take (k+1)) p=T+s.si from by rw[f,I];rfl);clear f;go_wp2_with fail;go_roundw
     case rel=>exact⟨k+1,by omega,by simp,by rw[j.out],d.alloc d.size _⟩
     case measure=>simp[intOf];omega
    |false=>
     have j:=hid (show aT (G.take (k+1)) p=T from by rw[f,I];simp);clear f;go_wp2_with fail;go_roundw
     case rel=>exact⟨k+1,by omega,by simp,by rw[j.out],d.alloc d.size _⟩
     case measure=>simp[intOf];omega
  · have J:=hid (show aT (G.take k) p=aT G p from by rw[List.take_of_length_le (by omega)])
    go_wp2_with fail;go_ret;exact⟨an J.out,d⟩
theorem u7 (G:List Se) (v:Value) (x l r:Int) (w:World) (hv:bR w v G) (hn:G.length≤1000) (hs: ∀s∈G,0≤s.si∧s.si≤300):
    Calls prog 56 #[.agg #[v,.int .i64 x,.int .i64 l,.int .i64 r]] w fun e w'=>e= .returned (.int .i64 (fA G r))∧Below w.heap.size w w':=by
 have HV:=ai hv;have HS:=ai hs;obtain⟨a,d,rfl,Y,V,K⟩:=hv
 have HL:Hid (∀i (h:i<G.length),∃b o,a=some ⟨b,o,none⟩∧b<w.heap.size∧eu w b (o+i*5) G[i]):=K;clear K hs;go_enter func56,ntmps56
 go_wp2_with fail;go_loopw [8] (fun i wr=> ∃k:Nat,k≤G.length∧i= .int .i64 k∧Hid (∀j (h:j<G.length),j<k→aT G (G[j]).wh≤r)∧Below (w.alloc (.cells #[.slice a G.length d,.int .i64 x,.int .i64 l,.int .i64 r] 26)).heap.size (w.alloc (.cells #[.slice a G.length d,.int .i64 x,.int .i64 l,.int .i64 r] 26)) wr) (fun i _=>G.length-(intOf i).toNat)
 case atStart=>exact⟨0,Nat.zero_le _,rfl,(fun j _ h=>absurd h (Nat.not_lt_zero _): ∀j (h:j<G.length),j<0→aT G (G[j]).wh≤r),Below.refl _ _⟩
 case round=>
  obtain⟨k,hk,rfl,X,f⟩:=hrel
  obtain⟨aH,b1,b2,cg,u,C3⟩:=fS f
  have I:=ai f;clear f;by_cases M:k<G.length
  · obtain⟨b,o,rfl,hb,Z⟩:=HL.out k M
    obtain⟨c0,c1,c2,c3,c4⟩:=Z.below hb u
    have C4:=u.size;clear Z;have Q:=hid (show r<aT G (G[k]).wh→10=fA G r from fun h=>p9 M h)
    have J:=hid (show aT G (G[k]).wh≤r→ ∀j (h:j<G.length),j<k+1→aT G (G[j]).wh≤r from fun hh j h1 h2=>by
     by_cases e:j=k
     · subst e;exact hh
     · exact X.out j h1 (by omega))
    generalize G[k]=s at*;obtain⟨O,A⟩: ∃O,O=wr.alloc (.cells #[.int .i64 s.nu,.string s.wh,.string s.tx,.int .i64 s.si,.int .i64 s.ti] 125):=⟨_,rfl⟩
    have z:Below (w.alloc (.cells #[.slice (some ⟨b,o,none⟩) G.length d,.int .i64 x,.int .i64 l,.int .i64 r] 26)).heap.size (w.alloc (.cells #[.slice (some ⟨b,o,none⟩) G.length d,.int .i64 x,.int .i64 l,.int .i64 r] 26)) O:=A▸I.out.alloc I.out.size _;obtain⟨z0,_,_,z3,U,H⟩:=fS z
    have z1:O.cell? ⟨wr.heap.size,1,none⟩=some (.string s.wh):=by rw[A];simp
    have N:wr.heap.size<O.heap.size:=by rw[A];simp
    have E:=ai z;clear z I u aH b1 b2 cg;go_wp2_with fail;rw[←A];clear A c0 c1 c2 c3 c4
    go_region_held3 (fun W=>W.cell? ⟨w.heap.size,0,none⟩=some (.slice (some ⟨b,o,none⟩) G.length d)∧W.cell? ⟨w.heap.size,3,none⟩=some (.int .i64 r)∧W.cell? ⟨wr.heap.size,1,none⟩=some (.string s.wh)) (go_keep) (first
     |(go_at_call 105;refine(uZ G _ s.wh _ (HV.out.below U.drew) hn HS.out).mono ?_;rintro e wa ⟨rfl,y⟩;have k0:=(y.cell (p:=⟨w.heap.size,0,none⟩) H).trans z0;have k3:=(y.cell (p:=⟨w.heap.size,3,none⟩) H).trans z3;have k1:=(y.cell (p:=⟨wr.heap.size,1,none⟩) N).trans z1))
    all_goals
     have F:Below (w.alloc (.cells #[.slice (some ⟨b,o,none⟩) G.length d,.int .i64 x,.int .i64 l,.int .i64 r] 26)).heap.size (w.alloc (.cells #[.slice (some ⟨b,o,none⟩) G.length d,.int .i64 x,.int .i64 l,.int .i64 r] 26)) wa:=E.out.drew.trans (y.mono E.out.drew.size);clear y;by_cases hr:r<aT G s.wh
     · have P:=ai (Q.out hr)
       generalize aT G s.wh=T at*;go_wp2_with fail;go_ret;exact⟨an P.out,(fS F).2.2.2.2.1⟩
     · have S:=ai (J.out (by omega))
       generalize aT G s.wh=T at*;go_wp2_with fail;go_roundw
       case rel=>exact⟨k+1,by omega,by simp,S,F⟩
       case measure=>simp[intOf];omega
  · have P:=hid (show 0=fA G r from qb fun j h=>X.out j h (by omega))
    go_wp2_with fail;go_ret;exact⟨an P.out,u⟩
theorem qf (G:List Se) (v:Value) (x l r:Int) (w:World) (hv:bR w v G) (hs:jv G):
    Calls prog 22 #[.agg #[v,.int .i64 x,.int .i64 l,.int .i64 r]] w fun e w'=>e= .returned (.int .i64 (aZ G x l r))∧Below w.heap.size w w':=by
 have S:=ai hv;have HS:=ai hs;obtain⟨a,U,rfl,CD,CC,V⟩:=hv
 have HL:Hid (∀i (h:i<G.length),∃b o,a=some ⟨b,o,none⟩∧b<w.heap.size∧eu w b (o+i*5) G[i]):=V;clear V hs;by_cases H:dq G.length x l r=0
 case neg=>
  have J:=hid (show dq G.length x l r=aZ G x l r from(jw H).symm);have hz:(dq G.length x l r==0)=false:=by simpa using H
  clear H;go_enter func22,ntmps22
  go_wp2_with fail;refine(pY G _ x l r _ (S.out.below ((Below.refl _ _).alloc (Nat.le_refl _) _))).mono ?_
  rintro e w1 ⟨rfl,d⟩;obtain⟨aH,b1,b2,cg,f,z⟩:=fS d
  clear d;generalize dq G.length x l r=y at*;go_wp2;go_ret;exact⟨an J.out,f⟩
 case pos=>
 have I:=ai H;obtain⟨CE,⟨CF,CG⟩,⟨CH,CI⟩,⟨C3,C4⟩⟩:=lo H
 clear H;go_enter func22,ntmps22
 go_wp2_with fail;refine(pY G _ x l r _ (S.out.below ((Below.refl _ _).alloc (Nat.le_refl _) _))).mono ?_
 rintro e w1 ⟨rfl,d⟩;rw[I.out];have C5:=ai d;obtain⟨aH,b1,b2,cg,M,z⟩:=fS d
 clear d;go_wp2_with fail;go_loopw [15] (fun i wr=> ∃k:Nat,k≤G.length∧i= .int .i64 k∧Hid (∀j (h:j<G.length),j<k→bM x G[j]=0)∧Below (w.alloc (.cells #[.slice a G.length U,.int .i64 x,.int .i64 l,.int .i64 r] 26)).heap.size (w.alloc (.cells #[.slice a G.length U,.int .i64 x,.int .i64 l,.int .i64 r] 26)) wr) (fun i _=>G.length-(intOf i).toNat)
 case atStart=>exact⟨0,Nat.zero_le _,rfl,(fun j _ h=>absurd h (Nat.not_lt_zero _): ∀j (h:j<G.length),j<0→bM x G[j]=0),C5.out⟩
 case round=>
  clear aH b1 b2 cg M z;obtain⟨k,hk,rfl,HP,F⟩:=hrel
  obtain⟨aH,b1,b2,cg,f,z⟩:=fS F
  have P:=ai F;clear F;by_cases N:k<G.length
  · obtain⟨b,o,rfl,hb,he⟩:=HL.out k N
    obtain⟨c0,c1,c2,c3,c4⟩:=he.below hb f
    have CJ:=f.size;clear he
    have C6:=hid (show¬bM x G[k]=0→bM x G[k]=aZ G x l r from fun h=>by
     have hg:=nk N HP.out h;rw[np I.out (by rw[hg];exact h),hg])
    have T:=hid (show bM x G[k]=0→ ∀j (h:j<G.length),j<k+1→bM x G[j]=0 from fun hh j h1 h2=>by
     by_cases e:j=k
     · subst e;exact hh
     · exact HP.out j h1 (by omega))
    have Z:=(HS.out G[k] (List.getElem_mem N)).1;generalize G[k]=s at*;by_cases O:bM x s=0
    · have C7:=ai (T.out O)
      have Q:=ai O;clear O;go_wp2_with fail;refine(pZ s x _ C3 C4 Z).mono ?_
      rintro e w1 ⟨rfl,d⟩;rw[Q.out];obtain⟨d0,d1,d2,d3,d4,E,Y⟩:=mZ d
      have u:=P.out.trans (E.mono P.out.size);clear d E f;go_wp2_with fail;go_roundw
      case rel=>exact⟨k+1,by omega,by simp,C7,u⟩
      case measure=>simp[intOf];omega
    · have J:=ai (C6.out O)
      have hz:(bM x s==0)=false:=by simpa using O
      clear O;go_wp2_with fail;refine(pZ s x _ C3 C4 Z).mono ?_
      rintro e w1 ⟨rfl,d⟩;obtain⟨d0,d1,d2,d3,d4,E,Y⟩:=mZ d
      have u:=bj f E;clear d E f;generalize bM x s=y at*;go_wp2_with fail;go_ret;exact⟨an J.out,u⟩
  · have K:=ai (nl fun j h=>HP.out j h (by omega))
    have C8:=ai (qd K.out);cases A:eK G with
    |false=>
     have J:=hid (show 4=aZ G x l r from(nr I.out K.out A).symm);have Q:=ai A;clear A;go_wp2_with fail;refine(qe G _ _ (S.out.below f)).mono ?_
     rintro e w1 ⟨rfl,d⟩;rw[Q.out];have u:=bj f d;go_wp2;go_ret;exact⟨an J.out,u⟩
    |true=>
     have J:=hid (show fA G r=aZ G x l r from(nt I.out K.out A).symm);have Q:=ai A;clear A;go_wp2_with fail;refine(qe G _ _ (S.out.below f)).mono ?_
     rintro e w1 ⟨rfl,d⟩;rw[Q.out];have u:=bj f d;have f0:=(d.cell (p:=⟨w.heap.size,0,none⟩) z).trans aH;have f1:=(d.cell (p:=⟨w.heap.size,1,none⟩) z).trans b1;have f2:=(d.cell (p:=⟨w.heap.size,2,none⟩) z).trans b2;have f3:=(d.cell (p:=⟨w.heap.size,3,none⟩) z).trans cg;clear d f aH b1 b2 cg;go_wp2_with fail;refine(u7 G _ x l r _ (S.out.below u) (by omega) C8.out).mono ?_
     rintro e w2 ⟨rfl,C9⟩;have X:=bj u C9;generalize fA G r=y at*;go_wp2;go_ret;exact⟨an J.out,X⟩
end Go.Proofs.YtgamnckfmmbjdaaGreatDoor
