/- What checkText and checkLetter answer; what is wrong with a world. -/
import Derived.Test.YtcmlnelpcjfocaaGreatDoorWYZH
import Derived.Test.YtcmlnelpcjfocaaGreatDoorWYZF
import Derived.Test.YtcmlnelpcjfocaaGreatDoorWYZG
set_option linter.unusedSimpArgs false
set_option linter.unusedVariables false
namespace Go.Proofs.YtcmlnelpcjfocaaGreatDoor
open Go.RowKit Go.Proofs.Tryz
set_option maxHeartbeats 4000000
set_option maxRecDepth 100000
def kt (s:ByteArray):Int:=if(Wr.whole (dK ah 1000 s.data.toList)).isSome then 0 else 1
def nW (td:ByteArray→Int) (l:Lr):Int:=if l.ans=true then td l.tx else kt l.tx
def dv (td:ByteArray→Int) (n:Nat) (l:Lr):Int:=if l.fr<0∨(n:Int)≤l.fr then 3 else if¬(l.kind=2∨l.kind=1)then 7 else nW td l
def el (td:ByteArray→Int) (n:Nat):List Lr→Int
 |[]=>0
 |l::r=>if¬dv td n l=0 then dv td n l else el td n r
def bY (td:ByteArray→Int) (W:Wd):Int:=if¬ae W.hb=0 then ae W.hb else if 4<W.cls.length∨30<W.les.length then 2 else if¬eS W.cls=0 then eS W.cls else el td W.cls.length W.les
theorem sN {d:ByteArray→Int} {n:Nat}: ∀{l:List Lr} {k:Nat} (h:k<l.length),el d n (l.take k)=0→ ¬dv d n l[k]=0→el d n l=dv d n l[k]
 |[],_,h,_,_=>absurd h (by simp)
 |c::r,0,_,_,hn=>by
  simp only[List.getElem_cons_zero]at hn⊢;rw[el,if_pos hn]
 |c::r,k+1,h,h0,hn=>by
  rw[List.take_succ_cons,el]at h0;by_cases f:dv d n c=0
  · rw[if_neg (fun x=>x f)]at h0
    rw[el,if_neg (fun x=>x f)];simp only[List.getElem_cons_succ]at hn⊢;exact sN (by simpa using h) h0 hn
  · rw[if_pos f]at h0
    exact absurd h0 f
theorem sO {d:ByteArray→Int} {n:Nat}: ∀{l:List Lr} {k:Nat} (h:k<l.length),el d n (l.take k)=0→dv d n l[k]=0→el d n (l.take (k+1))=0
 |[],_,h,_,_=>absurd h (by simp)
 |c::r,0,_,_,hn=>by
  simp only[List.getElem_cons_zero]at hn;simp[List.take_succ_cons,el,hn]
 |c::r,k+1,h,h0,hn=>by
  rw[List.take_succ_cons,el]at h0;rw[List.take_succ_cons,el];by_cases f:dv d n c=0
  · rw[if_neg (fun x=>x f)]at h0⊢
    exact sO (by simpa using h) h0 (by simpa using hn)
  · rw[if_pos f]at h0
    exact absurd h0 f
def mT (td:ByteArray→Int):Prop:= ∀(s:ByteArray) (w:World),s.size≤cE→5<w.heap.size→aX w→Calls prog 96 #[.string s] w fun e w'=>(∃v,e= .returned (.tuple #[v,.int .i64 (td s)]))∧Below w.heap.size w w'
theorem Fz (s:ByteArray) (w:World) (z:s.size≤cE) (y:5<w.heap.size) (A:aX w):
    Calls prog 97 #[.string s] w fun e w'=>(∃v,e= .returned (.tuple #[v,.int .i64 (kt s)]))∧Below w.heap.size w w':=by
 refine(Fl s w z y A).mono ?_
 rintro e w' ⟨d,hb⟩;refine⟨?_,hb⟩
 rw[kt];cases f:Wr.whole (dK ah 1000 s.data.toList)with
 |none=>rw[f]at d;exact⟨_,d⟩
 |some q=>
  rw[f]at d;obtain⟨v,rfl,_⟩:=d
  exact⟨v,rfl⟩
theorem yu (O:ByteArray→Int) (l:Lr) (w:World) (G:l.ans=true→mT O) (M:l.tx.size≤cE) (P:5<w.heap.size) (N:aX w):
    Calls prog 53 #[.agg #[.int .i64 l.fr,.int .i64 l.kind,.bool l.ans,.string l.tx]] w fun e w'=>e= .returned (.int .i64 (nW O l))∧Below w.heap.size w w':=by
 obtain⟨E,z⟩: ∃E,E=w.alloc (.cells #[.int .i64 l.fr,.int .i64 l.kind,.bool l.ans,.string l.tx] 52):=⟨_,rfl⟩
 have y:Below w.heap.size w E:=by rw[z];exact(Below.refl _ _).alloc (Nat.le_refl _) _
 have K:=hid (show Cs E w.heap.size [.int .i64 l.fr,.int .i64 l.kind,.bool l.ans,.string l.tx] by rw[z];exact Cs.new w [.int .i64 l.fr,.int .i64 l.kind,.bool l.ans,.string l.tx] _);have I:=hid M;have J:=hid (N.belowB P y);have F:5<E.heap.size:=by have:=y.size;omega
 have H:=hid G;have aY:=K.out.cell 2 rfl;have S:=K.out.cell 3 rfl;have f:=hid z.symm;clear z M N G;obtain⟨fr,kind,ans,tx⟩:=l
 simp only at*;cases ans with
 |true=>
  go_enter func53,ntmps53
  go_upto_region 1 with fail;rw[f.out];clear f;go_wp2_with fail;refine(H.out (by simp) tx E I.out F J.out).mono ?_
  rintro e Q ⟨⟨v,rfl⟩,A⟩;have d:=ag y A;go_wp2_with fail;go_ret;exact⟨rfl,d⟩
 |false=>
  go_enter func53,ntmps53
  go_upto_region 1 with fail;rw[f.out];clear f;go_wp2_with fail;refine(Fz tx E I.out F J.out).mono ?_
  rintro e Q ⟨⟨v,rfl⟩,A⟩;have d:=ag y A;go_wp2_with fail;go_ret;exact⟨rfl,d⟩
theorem FA (M:ByteArray→Int) (l:Lr) (b n xc:Nat) (xa:Option Addr) (w:World) (hp:w.cell? ⟨b,7,none⟩=some (.slice xa n xc)) (hb:b<w.heap.size) (Y:l.ans=true→mT M) (hs:l.tx.size≤cE) (Z:5<w.heap.size) (hv:aX w):
    Calls prog 25 #[.pointer (some ⟨b,0,none⟩),.agg #[.int .i64 l.fr,.int .i64 l.kind,.bool l.ans,.string l.tx]] w fun e w'=>e= .returned (.int .i64 (dv M n l))∧Below w.heap.size w w':=by
 obtain⟨E,K⟩: ∃E,E=w.alloc (.cells #[.int .i64 l.fr,.int .i64 l.kind,.bool l.ans,.string l.tx] 52):=⟨_,rfl⟩
 have f:Below w.heap.size w E:=by rw[K];exact(Below.refl _ _).alloc (Nat.le_refl _) _
 have V:=hid (show Cs E w.heap.size [.int .i64 l.fr,.int .i64 l.kind,.bool l.ans,.string l.tx] by rw[K];exact Cs.new w [.int .i64 l.fr,.int .i64 l.kind,.bool l.ans,.string l.tx] _);have P:=(f.cell (p:=⟨b,7,none⟩) hb).trans hp;have HS:=hid hs;have U:=hid (fun W (hW:Below w.heap.size w W)=>hv.belowB Z hW);have H6:=hid Z;have T:=hid Y;have x0:=V.out.cell 0 rfl;have x1:=V.out.cell 1 rfl;have A:=hid K.symm;have I5: ¬b=w.heap.size:=by omega
 clear K hs hv Y hp Z;by_cases hA:l.fr<0
 · have N:=hid (show dv M n l=3 from by rw[dv,if_pos (Or.inl hA)])
   go_enter func25,ntmps25
   go_upto_region 1 with fail;rw[A.out];clear A;go_wp2_with fail;go_quiet (fail)
   generalize y:World.drewN E _=H;have z:Below w.heap.size w H:=y▸⟨f.os,f.tape,f.output,f.size,f.block⟩;clear y;go_wp2_with fail;go_ret;exact⟨by rw[N.out];rfl,z⟩
 · by_cases hB:(n:Int)≤l.fr
   · have N:=hid (show dv M n l=3 from by rw[dv,if_pos (Or.inr hB)])
     go_enter func25,ntmps25
     go_upto_region 1 with fail;rw[A.out];clear A;go_wp2_with fail;go_quiet (fail)
     generalize y:World.drewN E _=H;have z:Below w.heap.size w H:=y▸⟨f.os,f.tape,f.output,f.size,f.block⟩;clear y;go_wp2_with fail;go_ret;exact⟨by rw[N.out];rfl,z⟩
   · have J: ¬(l.fr<0∨(n:Int)≤l.fr):=fun h=>h.elim hA hB
     by_cases Q:l.kind=2∨l.kind=1
     · have N:=hid (show dv M n l=nW M l from by rw[dv,if_neg J,if_neg (fun x=>x Q)])
       clear J;rcases Q with S|S
       · have X:(l.kind !=2)=false:=by simp[S]
         clear S;go_enter func25,ntmps25
         go_upto_region 1 with fail;rw[A.out];clear A;go_wp2_with fail;go_quiet (fail)
         generalize y:World.drewN E _=H;have F:=Below.refl E.heap.size E;have G:Below E.heap.size E H:=y▸⟨F.os,F.tape,F.output,F.size,F.block⟩;have z:=ag f G;have d:=hid (V.out.below G);have z0:=d.out.cell 0 rfl;have z1:=d.out.cell 1 rfl;have z2:=d.out.cell 2 rfl;have z3:=d.out.cell 3 rfl;clear y x0 x1 P;go_wp2_with fail;refine(yu M l H T.out HS.out (by have:=H6.out;have:=z.size;omega) (U.out H z)).mono ?_
         rintro e w1 ⟨rfl,O⟩;have I:=ag z O;go_wp2_with fail;go_ret;exact⟨by rw[N.out];rfl,I⟩
       · have X:(l.kind !=2)=true:=by simp[S]
         have I0:(l.kind !=1)=false:=by simp[S]
         clear S;go_enter func25,ntmps25
         go_upto_region 1 with fail;rw[A.out];clear A;go_wp2_with fail;go_quiet (fail)
         generalize y:World.drewN E _=H;have F:=Below.refl E.heap.size E;have G:Below E.heap.size E H:=y▸⟨F.os,F.tape,F.output,F.size,F.block⟩;have z:=ag f G;have d:=hid (V.out.below G);have z0:=d.out.cell 0 rfl;have z1:=d.out.cell 1 rfl;have z2:=d.out.cell 2 rfl;have z3:=d.out.cell 3 rfl;clear y x0 x1 P;go_wp2_with fail;refine(yu M l H T.out HS.out (by have:=H6.out;have:=z.size;omega) (U.out H z)).mono ?_
         rintro e w1 ⟨rfl,O⟩;have I:=ag z O;go_wp2_with fail;go_ret;exact⟨by rw[N.out];rfl,I⟩
     · have N:=hid (show dv M n l=7 from by rw[dv,if_neg J,if_pos Q])
       have X:(l.kind !=2)=true:=by simpa using fun h=>Q (Or.inl h)
       have I0:(l.kind !=1)=true:=by simpa using fun h=>Q (Or.inr h)
       clear J Q;go_enter func25,ntmps25
       go_upto_region 1 with fail;rw[A.out];clear A;go_wp2_with fail;go_quiet (fail)
       generalize y:World.drewN E _=H;have F:=Below.refl E.heap.size E;have G:Below E.heap.size E H:=y▸⟨F.os,F.tape,F.output,F.size,F.block⟩;have z:=ag f G;have d:=hid (V.out.below G);have z0:=d.out.cell 0 rfl;have z1:=d.out.cell 1 rfl;have z2:=d.out.cell 2 rfl;have z3:=d.out.cell 3 rfl;clear y x0 x1 P;go_wp2_with fail;go_ret;exact⟨by rw[N.out];rfl,z⟩
def FB {α:Type} (b:Nat) (s:ByteArray) (bad:Bool) (w:World) (res:Option (α×List UInt8)) (V:α→Value→World→Prop) (Z:Value→World→Prop) (e:Ending) (w':World):Prop:=
 ∃v j bad',e= .returned v∧Sc b s j bad' w'∧j≤s.size∧w.grownBy w' (some b)∧
  ((bad=true∨res=none)→bad'=true∧Z v w')∧(bad=false→ ∀m r,res=some (m,r)→bad'=false∧V m v w'∧s.data.toList.drop j=r)
def bf:Int:=1152921504606846976
theorem sP (l:List UInt8):bg aF bf l=match aS aF l with
    |none=>none
    |some (n,r)=>if 0≤n∧n≤r.length then some (⟨(r.take n.toNat).toArray⟩,r.drop n.toNat)else none:=by
 unfold bg cO aJ;cases h:aS aF l with
 |none=>rfl
 |some z=>
  obtain⟨n,r⟩:=z
  have y:=(Wr.rd_some h).2.2.2.1;simp only[aF,decide_eq_true_eq]at y;simp only;by_cases d:0≤n
  · rw[if_pos ⟨d,by unfold bf;omega⟩]
    simp only;by_cases f:n≤r.length
    · rw[if_pos f,if_pos ⟨d,f⟩]
    · rw[if_neg f,if_neg (fun h=>f h.2)]
  · rw[if_neg (fun h=>d h.1),if_neg (fun h=>d h.1)]
theorem FC {l:List UInt8} (h:aS aF l=none):bg aF bf l=none:=by rw[sP,h]
theorem FD {l r:List UInt8} {n:Int} (h:aS aF l=some (n,r)) (d: ¬(0≤n∧n≤r.length)):bg aF bf l=none:=by rw[sP,h];exact if_neg d
theorem FE {l r:List UInt8} {n:Int} (h:aS aF l=some (n,r)) (d:0≤n∧n≤r.length):bg aF bf l=some (⟨(r.take n.toNat).toArray⟩,r.drop n.toNat):=by rw[sP,h];exact if_pos d
theorem pn.ways {b i:Nat} {s:ByteArray} {bad:Bool} {w w':World} {l:List UInt8} {e:Ending} (h:pn b i s bad w (kn l) e w'):
    (∃j,e= .returned (.int .i64 0)∧Sc b s j true w'∧j≤s.size∧w.grownBy w' (some b)∧(bad=true∨aS aF l=none))∨
    (∃n j,e= .returned (.int .i64 n)∧Sc b s j false w'∧j≤s.size∧w.grownBy w' (some b)∧bad=false∧aS aF l=some (n,s.data.toList.drop j)):=by
 rw[ED]at h;obtain⟨n,j,E,f,d,A,y,F,I⟩:=h
 cases G:aS aF l with
 |none=>obtain⟨rfl,rfl⟩:=F (Or.inr G);exact Or.inl ⟨j,f,d,A,y,Or.inr rfl⟩
 |some z=>
  obtain⟨m,r⟩:=z
  cases bad with
  |true=>obtain⟨rfl,rfl⟩:=F (Or.inl rfl);exact Or.inl ⟨j,f,d,A,y,Or.inl rfl⟩
  |false=>obtain⟨rfl,rfl,H⟩:=I rfl m r G;exact Or.inr ⟨n,j,f,d,A,y,rfl,by rw[H]⟩
theorem FF (b i:Nat) (s:ByteArray) (bad:Bool) (w:World) (h:Sc b s i bad w) (hi:i≤s.size) (hs:s.size≤140737488351232):
    Calls prog 41 #[.pointer (some ⟨b,0,none⟩)] w fun e w'=>FB b s bad w (bg aF bf (s.data.toList.drop i)) (fun x v _=>v= .string x) (fun v _=>v= .string ⟨#[]⟩) e w':=by
 have HK:=hid (xY b i s bad w h hi hs);have HS:=hid hs;obtain⟨K,H⟩: ∃x,x=bg aF bf (s.data.toList.drop i):=⟨_,rfl⟩
 rw[←H];have G:=hid H;clear h hs H;go_enter func41,ntmps41
 go_wp2_with fail;refine HK.out.mono ?_
 intro e F hw;rcases hw.ways with⟨j,rfl,z,Z,U,hb⟩|⟨n,j,rfl,z,Z,U,hb,hr⟩
 · have O:=hid z
   have Y:=hid (show bad=true∨K=none from hb.imp id (fun h=>by rw[G.out];exact FC h));have Q:=z.cs.cell 2 rfl;clear hb z hw HK;go_wp2_with fail;go_quiet (fail)
   generalize d:World.drewN F _=A;have y:=hid (d▸O.out.drewN:Sc b s j true A);have J:=hid (aG U (d▸fK F b _:F.grownBy A (some b)));have d2:=y.out.cs.cell 2 rfl;have g2:=y.out.cs.fr 2;clear d Q;go_wp2_with fail;refine bodyPost_ret (results_tmp rfl _ _ _) rfl ?_
   exact⟨_,j,true,rfl,y.out.bad,Z,aG J.out (ar _ b 2 _),fun _=>⟨rfl,rfl⟩,fun z m r E=>by
    rcases Y.out with h|h
    · rw[z]at h;cases h
    · rw[E]at h;cases h⟩
 · have O:=hid z
   have c0:=z.cs.cell 0 rfl;have c1:=z.cs.cell 1 rfl;have Q:=z.cs.cell 2 rfl;have P:=hid hr;have HB:=hid hb;have V:n.natAbs/10<1125899906842624:=by have:=(Wr.rd_some hr).2.2.2.1;simpa[aF]using this
   have I9:=hid V;have T:(s.data.toList.drop j).length=s.size-j:=by rw[List.length_drop,←Lib.size_eq]
   have N:=hid T;have I8:IntKind.i64.wrap ((s.size:Int)-j)=(s.size:Int)-j:=by have:=HS.out;rw[IntKind.wrap_i64]<;>omega
   clear z hw HK hr hb V T;by_cases f:0≤n∧n≤(s.size:Int)-j
   · obtain⟨k,rfl⟩: ∃k:Nat,n=k:=⟨n.toNat,by omega⟩
     have n0: ¬(k:Int)<0:=by omega
     have n1: ¬(s.size:Int)-j<k:=by omega
     have n2:(k:Int)≤(s.size:Int)-j:=by omega
     have HX:=hid (show K=some (⟨((s.data.toList.drop j).take k).toArray⟩,(s.data.toList.drop j).drop k)from by
      rw[G.out,FE P.out ⟨by omega,by rw[N.out];omega⟩];rfl)
     have w2:IntKind.i64.wrap ((j:Int)+k)=((j+k:Nat):Int):=by have:=HS.out;rw[IntKind.wrap_i64]<;>omega
     have w3:IntKind.i64.wrap (((j+k:Nat):Int)-k)=j:=by have:=HS.out;rw[IntKind.wrap_i64]<;>omega
     go_wp2_with fail;go_quiet (fail)
     generalize d:World.drewN F _=A;have y:=hid (d▸O.out.drewN:Sc b s j false A);have J:=hid (aG U (d▸fK F b _:F.grownBy A (some b)));have d1:=y.out.cs.cell 1 rfl;have g1:=y.out.cs.fr 1;have R3:=hid (y.out.set (j+k));have R4:=hid (aG J.out (ar A b 1 (.int .i64 ((j+k:Nat):Int))));clear d c0 c1 Q f;go_wp2_with fail;generalize M:A.setCell _ _=X
     have R5:Sc b s (j+k) false X:=by
      rw[←M];have S:=R3.out;rw[show((j+k:Nat):Int)=(j:Int)+k from by omega]at S;exact S
     have R6:w.grownBy X (some b):=by
      rw[←M];have S:=R4.out;rw[show((j+k:Nat):Int)=(j:Int)+k from by omega]at S;exact S
     have aL:=R5.cs.cell 0 rfl;have e1:=R5.cs.cell 1 rfl;have I5:=hid R5;have I6:=hid R6;have b1:(0:Int)≤j:=by omega
     have b2:(j:Int)≤((j+k:Nat):Int):=by omega
     have dF:((j+k:Nat):Int)≤s.size:=by omega
     have b4:j+k≤s.size:=by omega
     have I0:=hid (show s.extract j (j+k)=(⟨((s.data.toList.drop j).take k).toArray⟩:ByteArray)from dN (by rw[Lib.extract_data];simp));clear M R5 R6 d1 g1 w2 I8 n0 n1 n2;generalize I7:j+k=q at*;go_quiet (fail)
     generalize I:World.drewN X _=wy;have R7:=hid (I▸I5.out.drewN:Sc b s q false wy);have R8:=hid (aG I6.out (I▸fK X b _:X.grownBy wy (some b)));clear I;go_wp2_with fail;refine bodyPost_ret (results_tmp rfl _ _ _) rfl ?_
     refine⟨_,q,false,rfl,R7.out,b4,R8.out,fun h=>?_,fun z m r E=>?_⟩
     · rcases h with h|h
       · rw[HB.out]at h;cases h
       · rw[HX.out]at h;cases h
     · rw[HX.out]at E
       simp only[Option.some.injEq,Prod.mk.injEq]at E;refine⟨rfl,?_,by rw[←E.2,List.drop_drop,I7]⟩
       rw[←E.1,←I0.out];rfl
   · have Y:=hid (show K=none from by rw[G.out];exact FD P.out (fun h=>f ⟨h.1,by have:=h.2;rw[N.out]at this;omega⟩))
     by_cases h0:n<0
     · clear f
       go_wp2_with fail;go_quiet (fail)
       generalize d:World.drewN F _=A;have y:=hid (d▸O.out.drewN:Sc b s j false A);have J:=hid (aG U (d▸fK F b _:F.grownBy A (some b)));have d2:=y.out.cs.cell 2 rfl;have g2:=y.out.cs.fr 2;clear d c0 c1 Q;go_wp2_with fail;refine bodyPost_ret (results_tmp rfl _ _ _) rfl ?_
       exact⟨_,j,true,rfl,y.out.bad,Z,aG J.out (ar _ b 2 _),fun _=>⟨rfl,rfl⟩,fun z m r E=>by
        rw[Y.out]at E;cases E⟩
     · have n0: ¬n<0:=h0
       have n1:(s.size:Int)-j<n:=by omega
       clear f;go_wp2_with fail;go_quiet (fail)
       generalize d:World.drewN F _=A;have y:=hid (d▸O.out.drewN:Sc b s j false A);have J:=hid (aG U (d▸fK F b _:F.grownBy A (some b)));have d2:=y.out.cs.cell 2 rfl;have g2:=y.out.cs.fr 2;clear d c0 c1 Q;go_wp2_with fail;refine bodyPost_ret (results_tmp rfl _ _ _) rfl ?_
       exact⟨_,j,true,rfl,y.out.bad,Z,aG J.out (ar _ b 2 _),fun _=>⟨rfl,rfl⟩,fun z m r E=>by
        rw[Y.out]at E;cases E⟩
def iC {α:Type} (b:Nat) (s:ByteArray) (bad:Bool) (w:World) (res:Option (α×List UInt8)) (V:α→Value→World→Prop) (P:α→Prop) (e:Ending) (w':World):Prop:=
 ∃x v j bad',e= .returned v∧V x v w'∧P x∧Sc b s j bad' w'∧j≤s.size∧w.grownBy w' (some b)∧(bad=true→bad'=true)∧
  (bad=false→(res=none→bad'=true)∧ ∀y r,res=some (y,r)→bad'=false∧x=y∧s.data.toList.drop j=r)
theorem iC.step {d A:Type} {b j:Nat} {s:ByteArray} {bad:Bool} {w w':World} {p:bk d} {f:d→bk A} {V:d→Value→World→Prop} {P:d→Prop} {e:Ending} {RES:Option (A×List UInt8)} (h:iC b s bad w (p (s.data.toList.drop j)) V P e w')
    (N:bad=true→RES=none) (hF:bad=false→RES=aJ p f (s.data.toList.drop j)):
    ∃x v G E,e= .returned v∧V x v w'∧P x∧Sc b s G E w'∧G≤s.size∧w.grownBy w' (some b)∧(E=true→RES=none)∧(E=false→RES=f x (s.data.toList.drop G)):=by
 obtain⟨x,v,G,E,Q,O,K,M,T,S,I,H⟩:=h
 refine⟨x,v,G,E,Q,O,K,M,T,S,?_,?_⟩
 · intro hb
   cases bad with
   |true=>exact N rfl
   |false=>
    rw[hF rfl];cases F:p (s.data.toList.drop j)with
    |none=>exact cJ F
    |some z=>obtain⟨y,r⟩:=z;have:=((H rfl).2 y r F).1;rw[hb]at this;cases this
 · intro hb
   cases bad with
   |true=>rw[I rfl]at hb;cases hb
   |false=>
    rw[hF rfl];cases F:p (s.data.toList.drop j)with
    |none=>rw[(H rfl).1 F]at hb;cases hb
    |some z=>obtain⟨y,r⟩:=z;obtain⟨_,rfl,J⟩:=(H rfl).2 y r F;rw[Wr.bind_some F,J]
theorem FG {n:Int} (h:aF n=true):dz n:=by simp only[aF,decide_eq_true_eq]at h;exact⟨by omega,by omega⟩
theorem im (b i:Nat) (s:ByteArray) (bad:Bool) (w:World) (h:Sc b s i bad w) (G:i≤s.size) (H:s.size≤140737488351232):
    Calls prog 38 #[.pointer (some ⟨b,0,none⟩)] w fun e w'=>iC b s bad w (aS aF (s.data.toList.drop i)) (fun n v _=>v= .int .i64 n) dz e w':=
 (xY b i s bad w h G H).mono fun e w' I=>by
  rcases I.ways with⟨j,rfl,f,A,z,hb⟩|⟨n,j,rfl,f,A,z,hb,E⟩
  · refine⟨0,_,j,true,rfl,rfl,⟨by decide,by decide⟩,f,A,z,fun _=>rfl,fun F=>⟨fun _=>rfl,fun y r d=>?_⟩⟩
    rcases hb with hb|hb
    · rw[F]at hb;cases hb
    · rw[d]at hb;cases hb
  · refine⟨n,_,j,false,rfl,rfl,FG (Wr.rd_some E).2.2.2.1,f,A,z,(fun h=>by rw[hb]at h;cases h),fun F=>⟨(fun h=>by rw[E]at h;cases h),fun y r d=>?_⟩⟩
    rw[E]at d;simp only[Option.some.injEq,Prod.mk.injEq]at d;exact⟨rfl,d.1,d.2⟩
theorem jq (b i:Nat) (s:ByteArray) (bad:Bool) (w:World) (h:Sc b s i bad w) (O:i≤s.size) (P:s.size≤140737488351232):
    Calls prog 41 #[.pointer (some ⟨b,0,none⟩)] w fun e w'=>iC b s bad w (bg aF bf (s.data.toList.drop i)) (fun x v _=>v= .string x) gY e w':=
 (FF b i s bad w h O P).mono fun e w' Q=>by
  obtain⟨v,j,J,F,E,H,G,K,M⟩:=Q
  have d:gY ⟨#[]⟩:=by show(0:Int)≤_;decide
  cases bad with
  |true=>obtain⟨rfl,f⟩:=K (Or.inl rfl);exact⟨⟨#[]⟩,v,j,true,F,f,d,E,H,G,fun _=>rfl,fun h=>by cases h⟩
  |false=>
   cases I:bg aF bf (s.data.toList.drop i)with
   |none=>obtain⟨rfl,f⟩:=K (Or.inr I);exact⟨⟨#[]⟩,v,j,true,F,f,d,E,H,G,fun _=>rfl,fun h=>⟨fun _=>rfl,fun y r A=>by cases A⟩⟩
   |some z=>
    obtain⟨y,r⟩:=z
    obtain⟨rfl,f,N⟩:=M rfl y r I
    refine⟨y,v,j,false,F,f,?_,E,H,G,(fun h=>by cases h),fun h=>⟨(fun h=>by cases h),fun T S A=>?_⟩⟩
    · have:=((eh oS bf _ _ _).1 I).1.2
      unfold bf at this;unfold gY;omega
    · simp only[Option.some.injEq,Prod.mk.injEq]at A
      exact⟨rfl,A.1,by rw[N,A.2]⟩
theorem sQ (b i:Nat) (m:Int) (s:ByteArray) (bad:Bool) (w:World) (h:Sc b s i bad w) (hi:i≤s.size) (hs:s.size≤140737488351232) (M:0≤m):
    Calls prog 40 #[.pointer (some ⟨b,0,none⟩),.int .i64 m] w fun e w'=>iC b s bad w (cO aF m (s.data.toList.drop i)) (fun n v _=>v= .int .i64 n) (fun n=>0≤n∧n≤m) e w':=by
 have X:=hid (im b i s bad w h hi hs);obtain⟨H,A⟩: ∃x,x=cO aF m (s.data.toList.drop i):=⟨_,rfl⟩
 rw[←A];have Y:=hid A;have hC: ∀n r,aS aF (s.data.toList.drop i)=some (n,r)→H=if 0≤n∧n≤m then some (n,r)else none:=fun n r h=>by rw[A,cO,Wr.bind_some h]
 have hN:aS aF (s.data.toList.drop i)=none→H=none:=fun h=>by rw[A];exact cJ h
 have O:=hid (And.intro hC hN);clear h hs A hC hN;go_enter func40,ntmps40
 go_wp2_with fail;refine X.out.mono ?_
 rintro e w1 ⟨n,_,j,E,rfl,rfl,hP,Q,J,I,hT,hF⟩;have G:=hid Q;have c2:=Q.cs.cell 2 rfl;have f2:=Q.cs.fr 2;have Z:=hid hT;have P:=hid hF;clear Q hT hF X;cases N:aS aF (s.data.toList.drop i)with
 |none=>
  have hb:E=true:=by
   cases bad with
   |true=>exact Z.out rfl
   |false=>exact(P.out rfl).1 N
  subst hb;have K:=hid (O.out.2 N);by_cases d:0≤n∧n≤m
  · have T: ¬n<0:=by omega
    have U: ¬m<n:=by omega
    go_wp2_with fail;refine bodyPost_ret (results_tmp rfl _ _ _) rfl ?_
    exact⟨0,_,j,true,rfl,rfl,⟨by omega,M⟩,G.out,J,I,fun _=>rfl,fun _=>⟨fun _=>rfl,fun y r f=>by rw[K.out]at f;cases f⟩⟩
  · by_cases T:n<0
    · go_wp2_with fail
      refine bodyPost_ret (results_tmp rfl _ _ _) rfl ?_
      exact⟨0,_,j,true,rfl,rfl,⟨by omega,M⟩,G.out.bad,J,aG I (ar _ b 2 _),fun _=>rfl,fun _=>⟨fun _=>rfl,fun y r f=>by rw[K.out]at f;cases f⟩⟩
    · have U:m<n:=by omega
      go_wp2_with fail;refine bodyPost_ret (results_tmp rfl _ _ _) rfl ?_
      exact⟨0,_,j,true,rfl,rfl,⟨by omega,M⟩,G.out.bad,J,aG I (ar _ b 2 _),fun _=>rfl,fun _=>⟨fun _=>rfl,fun y r f=>by rw[K.out]at f;cases f⟩⟩
 |some z=>
  obtain⟨y,r⟩:=z
  have V:=hid (O.out.1 y r N);by_cases d:0≤n∧n≤m
  · have T: ¬n<0:=by omega
    have U: ¬m<n:=by omega
    cases hb:E with
    |true=>
     rw[hb]at c2;go_wp2_with fail;refine bodyPost_ret (results_tmp rfl _ _ _) rfl ?_
     refine⟨0,_,j,E,rfl,rfl,⟨by omega,M⟩,G.out,J,I,fun _=>hb,fun F=>?_⟩
     have:=((P.out F).2 y r N).1
     rw[hb]at this;cases this
    |false=>
     rw[hb]at c2;go_wp2_with fail;refine bodyPost_ret (results_tmp rfl _ _ _) rfl ?_
     refine⟨n,_,j,E,rfl,rfl,d,G.out,J,I,Z.out,fun F=>?_⟩
     obtain⟨k1,S,k3⟩:=(P.out F).2 y r N
     subst S;rw[V.out,if_pos d]
     exact⟨(fun h=>by cases h),fun y' r' f=>by
      simp only[Option.some.injEq,Prod.mk.injEq]at f;exact⟨k1,f.1,by rw[k3,f.2]⟩⟩
  · have K:=hid (show bad=false→H=none from fun F=>by
     obtain⟨k1,S,k3⟩:=(P.out F).2 y r N
     subst S;rw[V.out,if_neg d])
    by_cases T:n<0
    · go_wp2_with fail
      refine bodyPost_ret (results_tmp rfl _ _ _) rfl ?_
      exact⟨0,_,j,true,rfl,rfl,⟨by omega,M⟩,G.out.bad,J,aG I (ar _ b 2 _),fun _=>rfl,fun F=>⟨fun _=>rfl,fun y r f=>by rw[K.out F]at f;cases f⟩⟩
    · have U:m<n:=by omega
      go_wp2_with fail;refine bodyPost_ret (results_tmp rfl _ _ _) rfl ?_
      exact⟨0,_,j,true,rfl,rfl,⟨by omega,M⟩,G.out.bad,J,aG I (ar _ b 2 _),fun _=>rfl,fun F=>⟨fun _=>rfl,fun y r f=>by rw[K.out F]at f;cases f⟩⟩
theorem iC.stepM {d z:Type} {b j:Nat} {s:ByteArray} {bad:Bool} {w w':World} {p:bk d} {f:d→bk z} {V:d→Value→World→Prop} {P:d→Prop} {e:Ending} {RES:Option (z×List UInt8)} (h:iC b s bad w (p (s.data.toList.drop j)) V P e w')
    (X:bad=true→RES=none) (hF:bad=false→RES=aJ p f (s.data.toList.drop j)):
    ∃x v E A,e= .returned v∧V x v w'∧P x∧Sc b s E A w'∧E≤s.size∧w.grownBy w' (some b)∧(A=true→RES=none)∧(A=false→RES=f x (s.data.toList.drop E))∧(bad=true→A=true):=by
 have h':=h;obtain⟨x,v,E,A,N,Y,U,H,Q,O,M,S⟩:=h
 have T:iC b s bad w (p (s.data.toList.drop j)) (fun y u W=>u=v∧W=w'∧y=x) (fun y=>y=x) e w':=⟨x,v,E,A,N,⟨rfl,rfl,rfl⟩,rfl,H,Q,O,M,S⟩
 obtain⟨aY,v2,j2,K,gm,⟨rfl,_,rfl⟩,_,I,I0,Z,J,G⟩:=T.step (f:=f) X hF
 have F:=H.symm.trans I;simp only[Option.some.injEq,Obj.cells.injEq,Array.mk.injEq,List.cons.injEq,Value.int.injEq,Value.bool.injEq,true_and,and_true]at F;obtain⟨F,rfl⟩:=F
 obtain rfl:E=j2:=by omega
 exact⟨_,_,_,_,N,Y,U,H,Q,O,J,G,M⟩
structure S5 (w:World) (b C:Nat) (s:ByteArray) (j:Nat) (bd:Bool) (cs:List Value) (W:World):Prop where
 sc:Sc b s j bd W
 jl:j≤s.size
 cC:Cs W C cs
 fr:w.grownBy W (some b)
 bl:b<w.heap.size
 Cl:w.heap.size≤C
theorem S5.call {w W f:World} {b C j y:Nat} {s:ByteArray} {bd d:Bool} {cs:List Value} (h:S5 w b C s j bd cs W) (z:W.grownBy f (some b)) (E:Sc b s y d f) (A:y≤s.size):S5 w b C s y d cs f:=
 ⟨E,A,h.cC.nb z (by have:=h.bl;have:=h.Cl;omega),aG h.fr z,h.bl,h.Cl⟩
theorem Sc.nb {b g i:Nat} {s:ByteArray} {bad:Bool} {w w':World} (h:Sc b s i bad w) (f:w.grownBy w' (some g)) (d:b≠g):Sc b s i bad w':=(f.block b h.lt (fun e=>d (by injection e))).trans h
theorem S5.set {w W:World} {b C j:Nat} {s:ByteArray} {bd:Bool} {cs:List Value} (h:S5 w b C s j bd cs W) (i:Nat) (v:Value):S5 w b C s j bd (cs.set i v) (W.setCell ⟨C,i,none⟩ v):=by
 have hb:=h.bl;have d:=h.Cl;exact⟨h.sc.nb (ar W C i v) (by omega),h.jl,h.cC.set i v,bU h.fr h.Cl v,h.bl,h.Cl⟩
theorem nX {w:World} {b j:Nat} {s:ByteArray} {bd:Bool} (cs:List Value) (T:TypeId) (h:Sc b s j bd w) (d:j≤s.size):S5 w b w.heap.size s j bd cs (w.alloc (.cells cs.toArray T)):=
 ⟨h.below (bO _ _),d,Cs.new w cs T,gi b (bO _ _),h.lt,Nat.le_refl _⟩
structure sR (w:World) (b:Nat) (s:ByteArray) (x:Value) (cs:List ay) (j:Nat) (bd:Bool) (W:World):Prop where
 row:aV w.heap.size 72 5 fI cs x W
 sc:Sc b s j bd W
 jl:j≤s.size
 fr:w.grownBy W (some b)
 wf: ∀c∈cs,je c
theorem yv (b i:Nat) (s:ByteArray) (bad:Bool) (w:World) (h:Sc b s i bad w) (hi:i≤s.size) (hs:s.size≤140737488351232):
    Calls prog 42 #[.pointer (some ⟨b,0,none⟩)] w fun e w'=>iC b s bad w (dr aF 20 (dt aF bf) (s.data.toList.drop i)) (aV w.heap.size 72 5 fI) (fun cs=>cs.length≤20∧ ∀c∈cs,je c) e w':=by
 have HK:=hid (sQ b i 20 s bad w h hi hs (by decide));obtain⟨RES,P⟩: ∃x,x=dr aF 20 (dt aF bf) (s.data.toList.drop i):=⟨_,rfl⟩
 rw[←P];have Y:=hid (show bad=false→RES=aJ (cO aF 20) (fun n=>eC (dt aF bf) n.toNat) (s.data.toList.drop i)from fun _=>P);have HS:=hid hs;have IY:=h.lt;obtain⟨aZ,Jf,Jm,Jp,Jq⟩:=info_parts Tryz.infoW5
 clear h hs P;go_enter func42,ntmps42
 go_wp2_with fail;refine HK.out.mono ?_
 intro e w1 d;have Iy:=d.stepM (RES:=if bad=true then none else RES) (f:=fun n=>eC (dt aF bf) n.toNat) (fun h=>if_pos h) (fun h=>by rw[if_neg (by rw[h];simp)];exact Y.out h);obtain⟨n,_,j1,I5,rfl,rfl,⟨Js,Jt⟩,IU,Jg,J1,Iv,I7,hM⟩:=Iy
 obtain⟨N,rfl⟩: ∃N:Nat,n=N:=⟨n.toNat,by omega⟩
 have HM:=hid hM;have IL:=hid (show sR w b s (.slice none 0 0) [] j1 I5 w1 from⟨mM _ _ _ _ _,IU,Jg,J1,fun c hc=>by cases hc⟩);obtain⟨RS,I9⟩: ∃x,x=if bad=true then none else RES:=⟨_,rfl⟩
 rw[←I9]at Iv I7;have Jc:=hid I9;have IN:=hid Iv;have IB:=hid (show I5=false→RS=ed (dt aF bf) (N-0) [] (s.data.toList.drop j1)from fun h=>by rw[I7 h,Int.toNat_natCast,Nat.sub_zero,sv]);clear d hM IU J1 Iv I7 I9 HK Y;go_wp2_with fail;go_loopw [3,5] (fun x i wr=> ∃(k j:Nat) (bd:Bool) (cs:List ay),i= .int .i64 k∧k≤N∧cs.length=k∧Hid (sR w b s x cs j bd wr)∧Hid (bad=true→bd=true)∧Hid (bd=true→RS=none)∧Hid (bd=false→RS=ed (dt aF bf) (N-k) cs (s.data.toList.drop j))) (fun _ i _=>N-(intOf i).toNat)
 case atStart=>exact⟨0,j1,I5,[],rfl,Nat.zero_le _,rfl,IL,HM,IN,IB⟩
 case round=>
  obtain⟨k,j,bd,cs,rfl,hk,IZ,A,H,HT,HF⟩:=hrel
  have G:=hid (show(k<N→bd=true)→iC b s bad w RES (aV w.heap.size 72 5 fI) (fun cs=>cs.length≤20∧ ∀c∈cs,je c) (.returned u3) wr from fun J0=>by
   refine⟨cs,_,j,bd,rfl,A.out.row,⟨by omega,A.out.wf⟩,A.out.sc,A.out.jl,A.out.fr,H.out,fun hf=>?_⟩
   have J5:RS=RES:=by rw[Jc.out,if_neg (by rw[hf];simp)]
   cases hb:bd with
   |true=>have:=HT.out hb;rw[J5]at this;rw[this];exact⟨fun _=>rfl,fun y r hy=>by cases hy⟩
   |false=>
    have h1:=HF.out hb
    rw[J5,show N-k=0 from by
     rcases Nat.lt_or_ge k N with h|h
     · rw[J0 h]at hb;cases hb
     · omega,mI]at h1
    rw[h1]
    exact⟨(fun h=>by cases h),fun y r hy=>by
     simp only[Option.some.injEq,Prod.mk.injEq]at hy;exact⟨rfl,hy.1,hy.2⟩⟩)
  clear IL HM IN IB;by_cases Jr:k<N
  · have c2:=A.out.sc.cs.cell 2 rfl
    cases F:bd with
    |true=>
     rw[F]at c2;clear A HT HF H;go_wp2_with fail;go_ret;exact G.out (fun _=>F)
    |false=>
     rw[F]at c2;clear G;obtain⟨m,hm⟩: ∃m,N-k=m+1:=⟨N-k-1,by omega⟩
     have J7:=hid (show bad=false from by
      cases hb:bad with
      |false=>rfl
      |true=>have:=H.out hb;rw[F]at this;cases this)
     have I0:=hid (HF.out F);rw[hm]at I0;have H0:=hid (nX mG 72 A.out.sc A.out.jl);rw[F]at H0;obtain⟨RC,I8⟩: ∃x,x=dt aF bf (s.data.toList.drop j):=⟨_,rfl⟩
     have IA:=hid (show RC=aJ (aS aF) (fun k=>aJ (bg aF bf) fun p=>aJ (bg aF bf) fun q=>aJ (bg aF bf) fun t=>aJ (aS aF) fun b=>dJ ⟨k,p,q,t,b⟩) (s.data.toList.drop j)from I8);have IM:=hid I8;clear HT HF I8 H;have IG:=hid (im b j s false _ H0.out.sc H0.out.jl HS.out);go_wp2_with fail;refine IG.out.mono ?_
     intro e w2 d;obtain⟨I,_,jA,jO,rfl,rfl,pA,IV,Jh,J2,IW,IT⟩:=d.step (fun h=>by cases h) (fun _=>IA.out)
     have HA:=hid (H0.out.call J2 IV Jh);have IP:=hid IW;have IC:=hid IT;have y0:=HA.out.cC.cell 0 rfl;have z0:=HA.out.cC.fr 0;clear d IV J2 IW IT IA IG H0 c2;go_wp2_with fail;have IH:=hid (jq b jA s jO _ (HA.out.set 0 (.int .i64 I)).sc (HA.out.set 0 (.int .i64 I)).jl HS.out);refine IH.out.mono ?_
     intro e w3 d;obtain⟨J,_,jB,bB,rfl,rfl,pB,Q,Ji,T,S,hF⟩:=d.step IP.out IC.out
     have HB:=hid ((HA.out.set 0 (.int .i64 I)).call T Q Ji);have IQ:=hid S;have ID:=hid hF;have y1:=HB.out.cC.cell 1 rfl;have z1:=HB.out.cC.fr 1;clear d Q T S hF IH IP IC HA y0 z0;go_wp2_with fail;have II:=hid (jq b jB s bB _ (HB.out.set 1 (.string J)).sc (HB.out.set 1 (.string J)).jl HS.out);refine II.out.mono ?_
     intro e w4 d;obtain⟨K,_,jC,bC,rfl,rfl,pC,Q,Jj,T,S,hF⟩:=d.step IQ.out ID.out
     have HC:=hid ((HB.out.set 1 (.string J)).call T Q Jj);have IR:=hid S;have IE:=hid hF;have al:=HC.out.cC.cell 2 rfl;have z2:=HC.out.cC.fr 2;clear d Q T S hF II IQ ID HB y1 z1;go_wp2_with fail;have IJ:=hid (jq b jC s bC _ (HC.out.set 2 (.string K)).sc (HC.out.set 2 (.string K)).jl HS.out);refine IJ.out.mono ?_
     intro e w5 d;obtain⟨M,_,jD,bD,rfl,rfl,pD,Q,Jk,T,S,hF⟩:=d.step IR.out IE.out
     have HD:=hid ((HC.out.set 2 (.string K)).call T Q Jk);have IS:=hid S;have IF:=hid hF;have y3:=HD.out.cC.cell 3 rfl;have z3:=HD.out.cC.fr 3;clear d Q T S hF IJ IR IE HC al z2;go_wp2_with fail;have IK:=hid (im b jD s bD _ (HD.out.set 3 (.string M)).sc (HD.out.set 3 (.string M)).jl HS.out);refine IK.out.mono ?_
     intro e w6 d;obtain⟨E,_,jE,bE,rfl,rfl,pE,Q,Jl,T,S,hF⟩:=d.step IS.out IF.out
     have HE:=hid ((HD.out.set 3 (.string M)).call T Q Jl);have Jd:=hid S;have J8:=hid hF;clear d Q T S hF IK IS IF HD y3 z3;obtain⟨w7,X⟩: ∃w7,w7=w6.setCell ⟨wr.heap.size,4,none⟩ (.int .i64 E):=⟨_,rfl⟩
     have HG:=hid (HE.out.set 4 (.int .i64 E));rw[←X]at HG;have y0:=HE.out.cC.cell 0 rfl;have y1:=HE.out.cC.cell 1 rfl;have al:=HE.out.cC.cell 2 rfl;have y3:=HE.out.cC.cell 3 rfl;have y4:=HE.out.cC.cell 4 rfl;have z4:=HE.out.cC.fr 4;obtain⟨Z,Iw,IX,Ix⟩:=A.out.row
     have Je:Z.length=k:=by rw[←IZ,←Iw,List.length_map]
     have O:=lN IX HG.out.fr IY;have V:=Nat.le_trans A.out.fr.size HG.out.fr.size;have J9:=hid (aG A.out.fr HG.out.fr);have Iz:=hid (show(bE=true→RS=none)∧(bE=false→RS=ed (dt aF bf) m (cs++[⟨I,J,K,M,E⟩]) (s.data.toList.drop jE))from⟨fun h=>by rw[I0.out];exact mJ (by rw[←IM.out];exact Jd.out h),fun h=>by rw[I0.out];exact mK (by rw[←IM.out,J8.out h];rfl)⟩);rw[X]at O
     have Jb:=hid (show∀j u,([.int .i64 I,.string J,.string K,.string M,.int .i64 E]:List Value)[j]?=some u→((w6.setCell ⟨wr.heap.size,4,none⟩ (.int .i64 E)).alloc (.cells #[.int .i64 I,.string J,.string K,.string M,.int .i64 E] 72)).cell? ((⟨w6.heap.size,0,none⟩:Addr).add j)=some u from by
      have h:=xG (w6.setCell ⟨wr.heap.size,4,none⟩ (.int .i64 E)) ⟨I,J,K,M,E⟩;rw[show(w6.setCell ⟨wr.heap.size,4,none⟩ (.int .i64 E)).heap.size=w6.heap.size from by simp]at h;exact h)
     have Ju:w.heap.size≤w6.heap.size:=by rw[X]at V;simpa using V
     go_wp2_with (at_builtin;refine wpList_append_own _ rfl _ _ 45 rfl w.heap.size 72 aZ (.agg #[.int .i64 0,.string ⟨#[]⟩,.string ⟨#[]⟩,.string ⟨#[]⟩,.int .i64 0]) 5 64 underlying45 Jf Jm Jp Jq rfl (by decide) _ _ _ rfl (O.alloc _) ⟨w6.heap.size,0,none⟩ 1 1 ([.int .i64 I,.string J,.string K,.string M,.int .i64 E]) rfl rfl Jb.out (by simp[Value.oneCell']) (by unfold maxLen;omega) (by omega) (by simp;omega) ?_)
     intro v5 J6 J4 U J3;rw[←X]at U O;have I6:Below w.heap.size w7 J6:=((Below.refl _ w7).alloc V _).grown U (by simp;omega) (fun q hq=>(O.lt q hq).1)
     have Ja:=hid (show sR w b s v5 (cs++[⟨I,J,K,M,E⟩]) jE bE J6 from⟨by rw[←Iw];exact aV.snoc (r:=[.int .i64 I,.string J,.string K,.string M,.int .i64 E]) (by rw[Je];exact J4) (fun z hz=>⟨(Ix z hz).1,(Ix z hz).2⟩) ⟨rfl,rfl,by simp[Value.oneCell']⟩,(I6.block b IY).trans HG.out.sc,HG.out.jl,mN J9.out I6,fun c hc=>by
      rcases List.mem_append.1 hc with h1|h1
      · exact A.out.wf c h1
      · rw[List.mem_singleton]at h1;rw[h1];exact⟨pA,pE,pB,pC,pD⟩⟩)
     clear J4 U J3 O Iw IX Ix I6 X;go_wp2_with fail;go_roundw
     case rel=>exact⟨k+1,jE,bE,cs++[⟨I,J,K,M,E⟩],by simp,by omega,by simp[IZ],Ja,hid (fun h=>by rw[J7.out]at h;cases h),hid Iz.out.1,hid (fun h=>by rw[Iz.out.2 h,show N-(k+1)=m from by omega])⟩
     case measure=>simp[intOf];omega
  · obtain rfl:k=N:=by omega
    clear A HT HF H;go_wp2_with fail;go_ret;exact G.out (fun h=>absurd h (Nat.lt_irrefl _))
theorem sS {d:Type} (f:d→List aN) (s:Ws) (xs:List d) (k:Nat) (h:k<xs.length):cA s ((xs.take (k+1)).flatMap f)=cA (cA s ((xs.take k).flatMap f)) (f xs[k]):=by
 rw[List.take_succ_eq_append_getElem h,List.flatMap_append,mS];simp
theorem sT {d:Type} (f:d→List aN) (m:Nat) (s:Ws) (xs:List d) (k:Nat) (h: ∀x∈xs,(f x).length≤m∧ ∀y∈f x,y.wf):(cA s ((xs.take k).flatMap f)).l.length≤s.l.length+1021*(m*xs.length):=by
 have F:=yt ((xs.take k).flatMap f) s (fun y A=>by
  obtain⟨x,z,A⟩:=List.mem_flatMap.1 A
  exact(h x (List.mem_of_mem_take z)).2 y A)
 have G:=pc f m (xs.take k) (fun x z=>(h x (List.mem_of_mem_take z)).1);have E:(xs.take k).length≤xs.length:=by rw[List.length_take];omega
 have H:m*(xs.take k).length≤m*xs.length:=Nat.mul_le_mul_left m E;omega
theorem yw (T:World) (cs:List ay) (v:Value) (b:Nat) (s:Ws) (w:World) (hL:cj T v cs) (X:Below T.heap.size T w) (hB:T.heap.size≤b) (h:RW b s w) (I8:s.l.length+200000≤1000000000) (hc: ∀c∈cs,je c):
    Calls prog 73 #[.pointer (some ⟨b,0,none⟩),v] w fun e w'=>e= .returned (.tuple #[])∧RW b (cA s (Wr.lst 20 bI cs)) w'∧w.grownBy w' (some b):=by
 obtain⟨a,I9,rfl,I7,I0,H⟩:=hL
 have V:=X.size;by_cases hn:(cs.length:Int)≤20
 · have HN:=hid (fM b s cs.length w h ⟨by omega,by omega⟩ (by omega))
   have l1:=ks (s:=s) (n:=cs.length) ⟨by omega,by omega⟩
   have HL:=hid (show∀k,(cA (bv s cs.length) ((cs.take k).flatMap bI)).l.length+6000≤1000000000 from fun k=>by
    have:=sT bI 5 (bv s cs.length) cs k (fun x hx=>(hc x hx).it)
    omega)
   have U:=hid (show cA (bv s cs.length) ((cs.take cs.length).flatMap bI)=cA s (Wr.lst 20 bI cs)from by rw[List.take_length,Wr.lst,if_pos (by omega)];rfl);have HC:=hid hc;have HM:=hid H;have HW:=hid X;have I6: ¬(20:Int)<cs.length:=by omega
   clear h hc H X hn;go_enter func73,ntmps73
   go_wp2_with fail;refine HN.out.mono ?_
   rintro e w1 ⟨rfl,h1,Y⟩;have H1:=hid (show RW b (cA (bv s cs.length) ((cs.take 0).flatMap bI)) w1 from h1);clear h1 HN;go_wp2_with fail;go_loopw [4] (fun i wr=> ∃k:Nat,k≤cs.length∧i= .int .i64 k∧Hid (RW b (cA (bv s cs.length) ((cs.take k).flatMap bI)) wr)∧w.grownBy wr (some b)) (fun i _=>cs.length-(intOf i).toNat)
   case atStart=>exact⟨0,Nat.zero_le _,rfl,H1,Y⟩
   case round=>
    obtain⟨k,hk,rfl,HV,hf⟩:=hrel
    by_cases G:k<cs.length
    · obtain⟨bb,o,rfl,Z,he⟩:=HM.out k G
      have d:=HC.out _ (List.getElem_mem G);have Iv:=HL.out k;have HX:=hid (sS bI (bv s cs.length) cs k G);have f:=hid (show∀W,w.grownBy W (some b)→iI W bb (o+k*5) cs[k]from fun W hg=>he.below Z (HW.out.trans (lS hg hB V)));generalize cA (bv s cs.length) ((cs.take k).flatMap bI)=t at*;generalize cs[k]=c at*;have t1:=ks (s:=t) (n:=c.k) d.k;have t2:=eD (s:=bv t c.k) (x:= .t c.p) trivial;have t3:=eD (s:=eM (bv t c.k) c.p) (x:= .t c.q) trivial;have t4:=eD (s:=eM (eM (bv t c.k) c.p) c.q) (x:= .t c.t) trivial;simp only[Wr.putR]at t2 t3 t4;clear he;obtain⟨z,y,A,E,F⟩:=f.out wr hf
      go_wp2_with fail;refine(fM b t c.k wr HV.out d.k (by omega)).mono ?_
      rintro e w2 ⟨rfl,h2,I⟩;have O:=aG hf I;have H2:=hid h2;clear h2 I z y A E F;obtain⟨z,y,A,E,F⟩:=f.out w2 O
      go_wp2_with fail;refine(jm b _ c.p w2 H2.out (by omega) d.p).mono ?_
      rintro e w3 ⟨rfl,h3,J⟩;have P:=aG O J;have H3:=hid h3;clear h3 J z y A E F;obtain⟨z,y,A,E,F⟩:=f.out w3 P
      go_wp2_with fail;refine(jm b _ c.q w3 H3.out (by omega) d.q).mono ?_
      rintro e w4 ⟨rfl,h4,K⟩;have Q:=aG P K;have H4:=hid h4;clear h4 K z y A E F;obtain⟨z,y,A,E,F⟩:=f.out w4 Q
      go_wp2_with fail;refine(jm b _ c.t w4 H4.out (by omega) d.t).mono ?_
      rintro e w5 ⟨rfl,h5,M⟩;have S:=aG Q M;have H5:=hid h5;clear h5 M z y A E F;obtain⟨z,y,A,E,F⟩:=f.out w5 S
      go_wp2_with fail;refine(fM b _ c.b w5 H5.out d.b (by omega)).mono ?_
      rintro e w6 ⟨rfl,h6,N⟩;have I5:=aG S N;have H6:=hid h6;clear h6 N z y A E F;go_wp2_with fail;go_roundw
      case rel=>exact⟨k+1,by omega,by simp,hid (by rw[HX.out];exact H6.out),I5⟩
      case measure=>simp[intOf];omega
    · obtain rfl:k=cs.length:=by omega
      go_wp2_with fail;go_end0
      exact⟨rfl,by rw[←U.out];exact HV.out,hf⟩
 · have y:=h.cs.cell 1 rfl
   have f1:=h.cs.fr 1;have HB:=hid h;have I6:(20:Int)<cs.length:=by omega
   have U:=hid (show cA s (Wr.lst 20 bI cs)=fY s from by rw[Wr.lst,if_neg (by omega)];rfl);go_enter func73,ntmps73
   go_wp2_with fail;refine bodyPost_ret (results_none rfl _ _ _) rfl ⟨rfl,?_,ar _ b 1 _⟩
   rw[U.out];exact HB.out.great
theorem yx (b:Nat) (s:Ws) (w:World) (h:RW b s w):
    Calls prog 74 #[.pointer (some ⟨b,0,none⟩)] w fun e w'=>e= .returned (.tuple #[.string (cI s).1,.int .i64 (cI s).2])∧w'=w:=by
 have d:=h.cs.cell 0 rfl;have y:=h.cs.cell 1 rfl;have z:=h.cs.cell 2 rfl;clear h;obtain⟨l,m,f⟩:=s
 cases m with
 |true=>
  rw[Ws.fin_many rfl];go_enter func74,ntmps74
  go_wp2_with fail;go_ret2;exact⟨rfl,rfl⟩
 |false=>
  cases f with
  |true=>
   rw[Ws.fin_far rfl rfl];go_enter func74,ntmps74
   go_wp2_with fail;go_ret2;exact⟨rfl,rfl⟩
  |false=>
   rw[Ws.fin_ok rfl rfl];go_enter func74,ntmps74
   go_wp2_with fail;go_ret2;exact⟨rfl,rfl⟩
theorem FH (q:Rq) (v:Value) (w:World) (hq:jV w v q) (hz:pe q):
    Calls prog 44 #[v] w fun e w'=>e= .returned (.tuple #[.string (cI (Wr.run aL (dE q))).1,.int .i64 (cI (Wr.run aL (dE q))).2])∧Below w.heap.size w w':=by
 rw[yr (sM (dE q) (⟨rfl,rfl,fun _=>rfl⟩:Wr.Alike aL aL))];obtain⟨va,rfl,hL⟩:=hq
 obtain⟨kind,who,fo,name,key,text,num,off,base,ch⟩:=q
 obtain⟨zk,zn,zo,zb,z1,z2,z3,z4,z5,zc⟩:=hz
 simp only at hL zk zn zo zb z1 z2 z3 z4 z5 zc⊢;obtain⟨H,I,rfl,IB⟩: ∃H I,va= .slice H ch.length I∧True:=by obtain⟨a,c,h,_⟩:=hL;exact⟨a,c,h,trivial⟩
 obtain⟨G,z⟩: ∃G,G=w.alloc (.cells #[.int .i64 kind,.string who,.string fo,.string name,.string key,.string text,.int .i64 num,.int .i64 off,.int .i64 base,.slice H ch.length I] 61):=⟨_,rfl⟩
 obtain⟨E,A⟩: ∃E,E=G.alloc (.cells #[.string ⟨#[]⟩,.bool false,.bool false] 150):=⟨_,rfl⟩
 have sa:G.heap.size=w.heap.size+1:=by rw[z];simp
 have S:Below w.heap.size w G:=by rw[z];exact bO _ _
 have K:Below G.heap.size G E:=by rw[A];exact bO _ _
 have J:Below w.heap.size w E:=S.trans (K.mono (by omega));have I6:Cs E w.heap.size [.int .i64 kind,.string who,.string fo,.string name,.string key,.string text,.int .i64 num,.int .i64 off,.int .i64 base,.slice H ch.length I]:=Cs.below (show Cs G w.heap.size [.int .i64 kind,.string who,.string fo,.string name,.string key,.string text,.int .i64 num,.int .i64 off,.int .i64 base,.slice H ch.length I] by rw[z];exact Cs.new w [.int .i64 kind,.string who,.string fo,.string name,.string key,.string text,.int .i64 num,.int .i64 off,.int .i64 base,.slice H ch.length I] _) K
 have h0:RW (w.heap.size+1) aL E:=by
  unfold RW;rw[←sa,A];exact heap_alloc_new G _
 have F:=hid (show∀W,E.grownBy W (some (w.heap.size+1))→Cs W w.heap.size [.int .i64 kind,.string who,.string fo,.string name,.string key,.string text,.int .i64 num,.int .i64 off,.int .i64 base,.slice H ch.length I]from fun W hg=>I6.nb hg (by omega));have P:=hid (show∀W,E.grownBy W (some (w.heap.size+1))→Below w.heap.size w W from fun W hg=>J.trans (lS hg (by omega) J.size));have l0:aL.l.length=0:=rfl;have HL:=hid hL;have HC:=hid zc;have HK:=hid (fM (w.heap.size+1) aL kind E h0 zk (by omega));rw[A,z]at HK;have Q:=hid (show E=(w.alloc (.cells #[.int .i64 kind,.string who,.string fo,.string name,.string key,.string text,.int .i64 num,.int .i64 off,.int .i64 base,.slice H ch.length I] 61)).alloc (.cells #[.string ⟨#[]⟩,.bool false,.bool false] 150)from by rw[A,z]);clear A z sa K S I6 h0 J hL IB zc;go_enter func44,ntmps44
 go_wp2_with fail;refine HK.out.mono ?_
 rintro e w1 ⟨rfl,d,M⟩;rw[←Q.out]at M;obtain⟨t1,O⟩: ∃t,t=bv aL kind:=⟨_,rfl⟩
 have L1:=ks (s:=aL) zk;rw[←O]at d L1;have I7:=hid O;have H1:=hid d;clear O d HK Q;have c1:=(F.out w1 M).cell 1 rfl;go_wp2_with fail;refine(jm (w.heap.size+1) t1 who w1 H1.out (by omega) z1).mono ?_
 rintro e w2 ⟨rfl,d,y⟩;have U:=aG M y;obtain⟨t2,f⟩: ∃t,t=eM t1 who:=⟨_,rfl⟩
 have L2:=eD (s:=t1) (x:= .t who) trivial;simp only[Wr.putR]at L2;rw[←f]at d L2;have I8:=hid f;have H2:=hid d;clear f d y c1;have c2:=(F.out w2 U).cell 2 rfl;go_wp2_with fail;refine(jm (w.heap.size+1) t2 fo w2 H2.out (by omega) z2).mono ?_
 rintro e w3 ⟨rfl,d,y⟩;have V:=aG U y;obtain⟨t3,f⟩: ∃t,t=eM t2 fo:=⟨_,rfl⟩
 have L3:=eD (s:=t2) (x:= .t fo) trivial;simp only[Wr.putR]at L3;rw[←f]at d L3;have I9:=hid f;have H3:=hid d;clear f d y c2;have c3:=(F.out w3 V).cell 3 rfl;go_wp2_with fail;refine(jm (w.heap.size+1) t3 name w3 H3.out (by omega) z3).mono ?_
 rintro e w4 ⟨rfl,d,y⟩;have X:=aG V y;obtain⟨t4,f⟩: ∃t,t=eM t3 name:=⟨_,rfl⟩
 have L4:=eD (s:=t3) (x:= .t name) trivial;simp only[Wr.putR]at L4;rw[←f]at d L4;have Iv:=hid f;have H4:=hid d;clear f d y c3;have c4:=(F.out w4 X).cell 4 rfl;go_wp2_with fail;refine(jm (w.heap.size+1) t4 key w4 H4.out (by omega) z4).mono ?_
 rintro e w5 ⟨rfl,d,y⟩;have Y:=aG X y;obtain⟨t5,f⟩: ∃t,t=eM t4 key:=⟨_,rfl⟩
 have L5:=eD (s:=t4) (x:= .t key) trivial;simp only[Wr.putR]at L5;rw[←f]at d L5;have Iw:=hid f;have H5:=hid d;clear f d y c4;have c5:=(F.out w5 Y).cell 5 rfl;go_wp2_with fail;refine(jm (w.heap.size+1) t5 text w5 H5.out (by omega) z5).mono ?_
 rintro e w6 ⟨rfl,d,y⟩;have Z:=aG Y y;obtain⟨dj,f⟩: ∃t,t=eM t5 text:=⟨_,rfl⟩
 have L6:=eD (s:=t5) (x:= .t text) trivial;simp only[Wr.putR]at L6;rw[←f]at d L6;have Ix:=hid f;have H6:=hid d;clear f d y c5;have c6:=(F.out w6 Z).cell 6 rfl;go_wp2_with fail;refine(fM (w.heap.size+1) dj num w6 H6.out zn (by omega)).mono ?_
 rintro e w7 ⟨rfl,d,y⟩;have I0:=aG Z y;obtain⟨t7,f⟩: ∃t,t=bv dj num:=⟨_,rfl⟩
 have L7:=ks (s:=dj) zn;rw[←f]at d L7;have Iy:=hid f;have H7:=hid d;clear f d y c6;have c7:=(F.out w7 I0).cell 7 rfl;go_wp2_with fail;refine(fM (w.heap.size+1) t7 off w7 H7.out zo (by omega)).mono ?_
 rintro e w8 ⟨rfl,d,y⟩;have I5:=aG I0 y;obtain⟨t8,f⟩: ∃t,t=bv t7 off:=⟨_,rfl⟩
 have L8:=ks (s:=t7) zo;rw[←f]at d L8;have Iz:=hid f;have H8:=hid d;clear f d y c7;have c8:=(F.out w8 I5).cell 8 rfl;go_wp2_with fail;refine(fM (w.heap.size+1) t8 base w8 H8.out zb (by omega)).mono ?_
 rintro e w9 ⟨rfl,d,y⟩;have N:=aG I5 y;obtain⟨t9,f⟩: ∃t,t=bv t8 base:=⟨_,rfl⟩
 have L9:=ks (s:=t8) zb;rw[←f]at d L9;have IA:=hid f;have H9:=hid d;clear f d y c8;have c9:=(F.out w9 N).cell 9 rfl;go_wp2_with fail;refine(yw w ch _ (w.heap.size+1) t9 w9 HL.out (P.out w9 N) (by omega) H9.out (by omega) HC.out).mono ?_
 rintro e IC ⟨rfl,d,y⟩;have T:=aG N y;have HD:=hid (yx (w.heap.size+1) _ IC d);clear d y c9;go_wp2_with fail;refine HD.out.mono ?_
 rintro e ID ⟨rfl,rfl⟩;go_wp2_with fail;go_ret2;refine⟨?_,P.out _ T⟩
 rw[show cA aL (dE ⟨kind,who,fo,name,key,text,num,off,base,ch⟩)=cA t9 (Wr.lst 20 bI ch)from by
  rw[dE,mS,IA.out,Iz.out,Iy.out,Ix.out,Iw.out,Iv.out,I9.out,I8.out,I7.out];rfl]
 rfl
end Go.Proofs.YtcmlnelpcjfocaaGreatDoor
