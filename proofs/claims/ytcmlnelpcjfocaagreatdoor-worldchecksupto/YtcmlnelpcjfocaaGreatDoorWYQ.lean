/- What the law TreeGoes says, as plain mathematics. -/
import Derived.Test.YtcmlnelpcjfocaaGreatDoorWYM
set_option linter.unusedSimpArgs false
set_option linter.unusedVariables false
namespace Go.Proofs.YtcmlnelpcjfocaaGreatDoor
open Go.RowKit Go.Maps Go.WideMaps Go.Proofs.Tryz
set_option maxHeartbeats 4000000
set_option maxRecDepth 100000
theorem q9 {R:List En} (f:Pp.Good R):da R:=fun e y=>by
 have z:=kK (gv (f.ents e y));have d:=f.ents e y;refine⟨by rw[Lib.size_eq];omega,?_⟩
 rw[bM,if_pos (gv d)]at d;split at d
 · cases d
 · split at d
   · cases d
   · omega
theorem vN (L:List En) (v:Value) (cs:List ay) (u:Value) (n:Int) (w:World) (hv:an w v L) (hs:da L) (hu:cj w u cs) (I5:lo 150000000000000 cs):
    Calls prog 195 #[v,u,.int .i64 n] w fun e w'=> ∃r,e= .returned (.tuple #[r,.int .i64 (jS L cs n),.int .i64 (cF L cs n)])∧an w' r (dQ L cs n)∧Below w.heap.size w w':=by
 have HV:=hid hv;have HS:=hid hs;have I8:=hid I5;obtain⟨a,IB,rfl,Iy,Iw,hC⟩:=hu
 have HC:Hid (∀i (h:i<cs.length),∃b o,a=some ⟨b,o,none⟩∧b<w.heap.size∧iI w b (o+i*5) cs[i]):=hC;clear hv hs I5 hC;by_cases f:aH L=0
 · have HT:=hid f
   by_cases V:20<cs.length
   · obtain⟨ae,E,z⟩:=oa f V n
     rw[ae,E,z];clear ae E z f;have X:20<(cs.length:Int):=by omega
     go_enter func195,ntmps195
     go_wp2_with fail;refine(gL L v _ HV.out HS.out).mono ?_
     rintro e w1 ⟨rfl,d⟩;rw[HT.out];go_wp2_with fail;go_ret3;exact⟨_,rfl,kJ _,d⟩
   · have X: ¬20<(cs.length:Int):=by omega
     have hg:=(fP L).1 f;have HG:=hid hg;have Iz:=hg.len;have H:=hid (show∀k e R,dG n L cs=(k,e,R)→cF L cs n=e∧jS L cs n=k∧dQ L cs n=R from fun k e R h=>pY f V h);clear hg f;go_enter func195,ntmps195
     go_wp2_with fail;refine(gL L v _ HV.out HS.out).mono ?_
     rintro e w1 ⟨rfl,d⟩;rw[HT.out];go_wp2_with fail;refine(nl L v _ _ (fun _=>true) _ (HV.out.below d) (BS _) (by omega) HS.out).mono ?_
     rintro e w2 ⟨u,rfl,Q,Ix,Y⟩;rw[show L.filter (fun _=>true)=L by simp]at Q;have HU:Hid (an w2 u L):=kP Q (by omega);have I:=d.trans (Y.mono d.size);clear Q Ix d Y;go_wp2_with fail;go_loopw [10,26] (fun x i wr=> ∃(k:Nat) (S:List En),k≤cs.length∧i= .int .i64 k∧Hid (an wr x S)∧Hid (Pp.Good S)∧Hid (Pp.Left n L cs S k)∧Below w.heap.size w wr) (fun _ i _=>cs.length-(intOf i).toNat)
     case atStart=>exact⟨0,L,Nat.zero_le _,rfl,HU,HG,Pp.left_zero n L cs,I⟩
     case round=>
      obtain⟨k,S,hk,rfl,HX,K,M,A⟩:=hrel
      clear I;by_cases G:k<cs.length
      · obtain⟨b,o,rfl,hb,he⟩:=HC.out k G
        obtain⟨c0,c1,c2,c3,c4⟩:=he.below hb A
        have I7:=I8.out cs[k] (List.getElem_mem G);have HZ:=hid I7;have O:=hid (show bX S cs[k] n=0→Pp.Left n L cs (cQ S cs[k] n) (k+1)from fun y=>Pp.left_next M.out G y);have P:=hid (show¬bX S cs[k] n=0→dG n L cs=(k,bX S cs[k] n,[])from fun y=>ue M.out G y);have J:=hid (show bX S cs[k] n=0→Pp.Good (cQ S cs[k] n)from fun y=>qh K.out y);clear he I7;generalize cs[k]=ck at*;obtain⟨T,p,q,t,fm⟩:=ck
        simp only at c0 c1 c2 c3 c4;go_wp2_with fail;refine(B2 S _ T p q t fm n _ (HX.out.below ((Below.refl _ _).alloc (Nat.le_refl _) _)) (q9 K.out) HZ.out.1 HZ.out.2.1 HZ.out.2.2 K.out).mono ?_
        rintro e w3 ⟨u3,rfl,I6,Z⟩;obtain⟨d0,d1,d2,d3,d4,I0,IA⟩:=vD Z
        have N:=hid I6;have F:=bn A I0;clear Z I6 d0 d1 d2 d3 d4 c0 c1 c2 c3 c4 A I0;by_cases y:bX S ⟨T,p,q,t,fm⟩ n=0
        · have U:=hid (O.out y)
          have I9:=hid (J.out y);have z:kQ S ⟨T,p,q,t,fm⟩ n=cQ S ⟨T,p,q,t,fm⟩ n:=by rw[kQ,nh y]
          have Iv:=hid (show an w3 u3 (cQ S ⟨T,p,q,t,fm⟩ n)from z▸N.out);rw[y];clear z y N O P J;go_wp2_with fail;go_roundw
          case rel=>exact⟨k+1,_,by omega,by simp,Iv,I9,U,F⟩
          case measure=>simp[intOf];omega
        · obtain⟨ae,E,z⟩:=H.out _ _ _ (P.out y)
          have hz:(bX S ⟨T,p,q,t,fm⟩ n==0)=false:=by simpa using y
          have HE:=hid ae;have U:=hid E;have HR:=hid z;clear ae E z y N O P J;go_wp2_with fail;go_ret3;exact⟨_,by rw[HE.out,U.out];rfl,by rw[HR.out];exact kJ _,F⟩
      · obtain rfl:k=cs.length:=by omega
        obtain⟨ae,E,z⟩:=H.out _ _ _ (Pp.left_end M.out)
        have HE:=hid ae;have U:=hid E;have HR:=hid z;clear ae E z;go_wp2_with fail;go_ret3;exact⟨_,by rw[HE.out,U.out];rfl,by rw[HR.out];exact HX.out,A⟩
 · obtain⟨ae,E,z⟩:=pX f cs n
   rw[ae,E,z];have hz:(aH L==0)=false:=by simpa using f
   clear ae E z;go_enter func195,ntmps195
   go_wp2_with fail;refine(gL L v _ HV.out HS.out).mono ?_
   rintro e w1 ⟨rfl,d⟩;go_wp2_with fail;go_ret3;exact⟨_,rfl,kJ _,d⟩
def Kp (w:World) (b mb:Nat) (vb:Value) (fi:Int) (vc:Value) (T:List En) (nn:Nat) (M:DataW Unit):Prop:=
 ∃vt,Cs w b [vb,.int .i64 fi,vc,vt,.map (some mb)]∧an w vt T∧w.ownsMap prog 9 (plainElem prog 3) mb nn M∧b≠mb
theorem Kp.below {w w':World} {b y:Nat} {A:Value} {f:Int} {E:Value} {T:List En} {z:Nat} {M:DataW Unit} (h:Kp w b y A f E T z M) (d:Below w.heap.size w w'):Kp w' b y A f E T z M:=by
 obtain⟨K,F,G,H,I⟩:=h
 exact⟨K,F.below d,G.below d,H.kept (row:=none) ⟨d.os,d.tape,d.output,d.size,fun k J _=>d.block k J⟩ (by simp),I⟩
theorem B4 (c:Co) (u:Value) (b F nn:Nat) (X Y:Value) (fi:Int) (T:List En) (M:DataW Unit) (w:World) (hu:cj w u c.ch) (I8:lo 150000000000000 c.ch) (IC:c.ke.size≤maxLen) (IE:(Lit.int .i64 c.nu).wf=true)
    (hk:Kp w b F X fi Y T nn M) (hs:da T) (ID:nn<maxLen) (IG: ∀s,X≠ .string s) (IH: ∀s,Y≠ .string s):
    Calls prog 150 #[.pointer (some ⟨b,0,none⟩),.agg #[.int .i64 c.nu,.string c.ke,u]] w fun e w'=>e= .returned (.int .i64 (cF T c.ch c.nu))∧eo w w' b F∧
     (cF T c.ch c.nu=0→Kp w' b F X fi Y (dQ T c.ch c.nu) (nn+1) (M.put (Jn.key c.ke) (Jn.num c.nu))):=by
 obtain⟨Z,K,V,hm,U⟩:=hk
 have I9:=hid K;have HT:=hid V;have HU:=hid hu;have HS:=hid hs;have I5:=hid I8;have HM:=hid hm;have Q:=K.lt;have IK:=hm.lt
 have II: ∀s,Value.string s∉[X,.int .i64 fi,Y,Z,.map (some F)]:=by
  obtain⟨_,_,rfl,_⟩:=V
  intro s hs;simp only[List.mem_cons,List.not_mem_nil,or_false]at hs;rcases hs with h|h|h|h|h
  · exact IG s h.symm
  · cases h
  · exact IH s h.symm
  · cases h
  · cases h
 obtain⟨G,z⟩: ∃G,G=w.alloc (.cells #[.int .i64 c.nu,.string c.ke,u] 110):=⟨_,rfl⟩
 have A:Below w.heap.size w G:=by rw[z];exact(Below.refl _ _).alloc (Nat.le_refl _) _
 have z0:G.cell? ⟨w.heap.size,0,none⟩=some (.int .i64 c.nu):=by rw[z];simp
 have z1:G.cell? ⟨w.heap.size,1,none⟩=some (.string c.ke):=by rw[z];simp
 have z2:G.cell? ⟨w.heap.size,2,none⟩=some u:=by rw[z];simp
 have d:w.heap.size<G.heap.size:=by rw[z];simp
 have z3:G.cell? ⟨b,3,none⟩=some Z:=(A.cell (p:=⟨b,3,none⟩) Q).trans (K.cell 3 rfl);clear K V hu hs I8 hm;by_cases h0:cF T c.ch c.nu=0
 · have H0:=hid h0
   go_enter func150,ntmps150
   go_wp2_with fail;rw[←z];clear z
   go_region_held3 (fun W=>W.cell? ⟨w.heap.size,0,none⟩=some (.int .i64 c.nu)∧W.cell? ⟨w.heap.size,2,none⟩=some u∧W.cell? ⟨b,3,none⟩=some Z) (go_keep) (first
    |(go_at_call 195;refine(vN T Z c.ch u c.nu _ (HT.out.below (ag A (Below.refl _ _).drew)) HS.out (HU.out.below (ag A (Below.refl _ _).drew)) I5.out).mono ?_;rintro e wa ⟨r,rfl,S,P⟩;rw[H0.out];have f:Below G.heap.size G wa:=((Below.refl _ _).drew).trans P;have j0:=(f.cell (p:=⟨w.heap.size,0,none⟩) d).trans z0;have j2:=(f.cell (p:=⟨w.heap.size,2,none⟩) d).trans z2;have j3:=(f.cell (p:=⟨b,3,none⟩) (Nat.lt_trans Q d)).trans z3))
   have Iw:=hid S;obtain⟨ra,J,rfl,_,_,_⟩:=S
   have E:=ag A f;have O:=hid (I9.out.below E);have IM:=O.out.fr 3;have Iy:Hid (dx wa b):=O.out.noStr II;obtain⟨N,y⟩: ∃N,N=wa.setCell ⟨b,3,none⟩ (.slice ra (dQ T c.ch c.nu).length J):=⟨_,rfl⟩
   have I0:=hid (show Cs N b [X,.int .i64 fi,Y,.slice ra (dQ T c.ch c.nu).length J,.map (some F)]from by rw[y];exact O.out.set 3 _);have q4:=I0.out.cell 4 rfl;have IL:=f.size;have br:N.cell? ⟨w.heap.size,0,none⟩=some (.int .i64 c.nu):=by rw[y,World.cell?_setCell_other (h:=fun e=>by injection e with e1 aE;omega)];exact j0
   have q1:N.cell? ⟨w.heap.size,1,none⟩=some (.string c.ke):=by rw[y,World.cell?_setCell_other (h:=fun e=>by injection e with e1 aE;omega)];exact(f.cell (p:=⟨w.heap.size,1,none⟩) d).trans z1
   have I6:=hid (show N.ownsMap prog 9 (plainElem prog 3) F nn M from by rw[y];exact(HM.out.kept (row:=none) ⟨E.os,E.tape,E.output,E.size,fun k hk _=>E.block k hk⟩ (by simp)).setCell (fun e=>U e.symm) _);obtain⟨w6,IF,I,H⟩:=I6.out.drew.update (string_keyed underlying9) underlying133 ID (keyOf_string_mk underlying9 IC) (plainElem_int underlying3 IE)
   have Iz:=hid I;clear I;go_wp2_with fail;have IB:eo w N b F:=by rw[y];exact(eo.of_below b F E).trans (eo.of_left F (ar _ _ _ _))
   have IJ:w.heap.size<N.heap.size:=by rw[y];simp;omega
   have Ix:=hid (show an N (.slice ra (dQ T c.ch c.nu).length J) (dQ T c.ch c.nu)from by rw[y];exact Iw.out.nb (ar wa b 3 _) Iy.out);rw[←y];clear y;go_region
   have IA:eo w w6 b F:=(IB.trans (eo.of_below b F (Below.refl _ _).drew)).trans (eo.of_right b H);have I7:Kp w6 b F X fi Y (dQ T c.ch c.nu) (nn+1) (M.put (Jn.key c.ke) (Jn.num c.nu)):=⟨_,(I0.out.below (Below.refl _ _).drew).nb H U,(Ix.out.below (Below.refl _ _).drew).nb H (qt I6.out.drew),Iz.out,U⟩
   have Iv:=hid I7;clear I7;go_wp2_with fail;go_ret;exact⟨by rw[H0.out];rfl,IA,fun _=>Iv.out⟩
 · have hz:(cF T c.ch c.nu==0)=false:=by simpa using h0
   go_enter func150,ntmps150
   go_wp2_with fail;rw[←z];clear z
   go_region_held3 (fun W=>W.cell? ⟨w.heap.size,0,none⟩=some (.int .i64 c.nu)∧W.cell? ⟨w.heap.size,2,none⟩=some u∧W.cell? ⟨b,3,none⟩=some Z) (go_keep) (first
    |(go_at_call 195;refine(vN T Z c.ch u c.nu _ (HT.out.below (ag A (Below.refl _ _).drew)) HS.out (HU.out.below (ag A (Below.refl _ _).drew)) I5.out).mono ?_;rintro e wa ⟨r,rfl,S,P⟩;have f:Below G.heap.size G wa:=((Below.refl _ _).drew).trans P;have j0:=(f.cell (p:=⟨w.heap.size,0,none⟩) d).trans z0;have j2:=(f.cell (p:=⟨w.heap.size,2,none⟩) d).trans z2;have j3:=(f.cell (p:=⟨b,3,none⟩) (Nat.lt_trans Q d)).trans z3))
   go_wp2_with fail;go_ret;exact⟨rfl,eo.of_below b F (ag A f),fun h=>absurd h h0⟩
def nB (w:World) (p:Value) (B:Nat) (v:Value) (J:Jo):Prop:= ∃b mb vb vc nn,p= .pointer (some ⟨b,0,none⟩)∧v= .agg #[vb,.int .i64 J.first,vc]∧B≤b∧B≤mb∧Kp w b mb vb J.first vc (Jn.tree J) nn (Jn.D J.cos)∧nn≤30
theorem nB.below {w w':World} {p:Value} {B:Nat} {v:Value} {J:Jo} (h:nB w p B v J) (F:Below w.heap.size w w'):nB w' p B v J:=by
 obtain⟨b,G,I,K,H,d,f,y,z,A,E⟩:=h
 exact⟨b,G,I,K,H,d,f,y,z,A.below F,E⟩
theorem vO {a:Option Addr} {n c:Nat} (s:ByteArray):Value.slice a n c≠ .string s:=fun h=>by cases h
theorem B5 {c:Co} {n:Int} (h:cT c n=0):c.nu=n∧n≤1000000∧cZ c.ke.data.toList=true∧0<c.ch.length:=by
 rcases qR c n with⟨_,ae⟩|⟨_,_,ae⟩|⟨_,_,_,ae⟩|⟨_,_,_,_,ae⟩|⟨f,z,d,y,_⟩
 · rw[ae]at h;cases h
 · rw[ae]at h;cases h
 · rw[ae]at h;cases h
 · rw[ae]at h;cases h
 · refine⟨f,by omega,?_,y⟩
   cases hb:cZ c.ke.data.toList with
   |true=>rfl
   |false=>rw[kG hb]at d;cases d
theorem vP {n:Int} (f: -9223372036854775808≤n) (y:n≤9223372036854775807):(Lit.int .i64 n).wf=true:=by
 have d:IntKind.i64.min= -9223372036854775808:=by decide
 have aE:IntKind.i64.max=9223372036854775807:=by decide
 simp only[Lit.wf,d,aE,Bool.and_eq_true,decide_eq_true_eq];exact⟨f,y⟩
theorem Tryz.makeNumbers (w:World):(Instr.makeMap 133 none).run prog w= .ok (.map (some w.heap.size)) (w.alloc (.map #[] 0)):=by
 simp[Instr.makeMap,run_underlying underlying133,Result.andThen]
theorem rb (J:Jo) (v:Value) (w:World) (hv:iR w v J) (hs:da J.base) (IK:eO 150000000000000 J.cos):
    Calls prog 107 #[v] w fun e w'=> ∃p,e= .returned (.tuple #[p,.int .i64 (bq J)])∧(bq J=0→nB w' p w.heap.size v J)∧(¬bq J=0→p= .pointer none)∧Below w.heap.size w w':=by
 obtain⟨vb,vc,rfl,IQ,IR⟩:=hv
 have Jl:=Tryz.makeNumbers;have I0:=hid IQ;have Jj:=hid IR;have HS:=hid hs;have IV:=hid IK;obtain⟨cb,f,rfl,Jd,IU,hC⟩:=IR
 obtain⟨N,d,rfl,Jc,IT,_⟩:=IQ
 have HC:Hid (∀i (h:i<J.cos.length),∃b o,cb=some ⟨b,o,none⟩∧b<w.heap.size∧iQ w b (o+i*3) J.cos[i]):=hC;clear hC hs IK;obtain⟨wz,z⟩: ∃wz,wz=((w.alloc (.cells #[.slice N J.base.length d,.int .i64 J.first,.slice cb J.cos.length f] 79)).alloc (.map #[] 0)).alloc (.cells #[.slice N J.base.length d,.int .i64 J.first,.slice cb J.cos.length f,.slice N J.base.length d,.map (some (w.heap.size+1))] 178):=⟨_,rfl⟩
 have F:Below w.heap.size w wz:=by rw[z];exact(((Below.refl _ _).alloc (Nat.le_refl _) _).alloc (by simp) _).alloc (by simp;omega) _
 have IE:w.heap.size+1+1<wz.heap.size:=by rw[z];simp
 have Iy:=hid (show Kp wz (w.heap.size+1+1) (w.heap.size+1) (.slice N J.base.length d) J.first (.slice cb J.cos.length f) J.base 0 (.map [])from by
  refine⟨.slice N J.base.length d,?_,I0.out.below F,?_,by omega⟩
  · have:=Cs.new ((w.alloc (.cells #[.slice N J.base.length d,.int .i64 J.first,.slice cb J.cos.length f] 79)).alloc (.map #[] 0)) [.slice N J.base.length d,.int .i64 J.first,.slice cb J.cos.length f,.slice N J.base.length d,.map (some (w.heap.size+1))] 178
    rw[z];simpa using this
  · have:=(World.ownsMap_made (w.alloc (.cells #[.slice N J.base.length d,.int .i64 J.first,.slice cb J.cos.length f] 79)) prog 9 (plainElem (H:=Unit) prog 3)).alloc (.cells #[.slice N J.base.length d,.int .i64 J.first,.slice cb J.cos.length f,.slice N J.base.length d,.map (some (w.heap.size+1))] 178)
    rw[z];simpa using this)
 by_cases V:aH J.base=0
 · have HT:=hid V
   by_cases hf:bi J.first=0
   · have IL:=qF.1 hf
     by_cases hm:30<J.cos.length
     · have E:=hid (qI V hf hm)
       have Je:30<(J.cos.length:Int):=by omega
       obtain⟨f1,f2⟩:=IL
       clear V hf;go_enter func107,ntmps107
       go_wp2_with fail;rw[←z];clear z;refine(gL J.base _ _ (I0.out.below F) HS.out).mono ?_
       rintro e w1 ⟨rfl,y⟩;rw[HT.out];obtain⟨IS,A,_⟩:=Iy.out.below y
       have c1:=A.cell 1 rfl;have c2:=A.cell 2 rfl;clear A;go_wp2_with fail;go_ret2;exact⟨_,by rw[E.out];rfl,(fun h=>by rw[E.out]at h;exact absurd h (by decide)),fun _=>rfl,ag F y⟩
     · have Je: ¬30<(J.cos.length:Int):=by omega
       obtain⟨f1,f2⟩:=IL
       have HG:=hid ((fP J.base).1 V);have Iv:=hid (show∀e T,cU J.first J.base J.cos=(e,T)→ ¬e=0→bq J=e from fun e T h he=>qJ V hf hm h he);have J9:=hid (show∀T,cU J.first J.base J.cos=(0,T)→ ¬Jn.Apart J.cos→bq J=6 from fun T h ha=>qK V hf hm h ha);have J7:=hid (show∀T,cU J.first J.base J.cos=(0,T)→Jn.Apart J.cos→bq J=0∧Jn.tree J=T from fun T h ha=>⟨uS V hf hm h ha,uT h⟩);clear V hf;go_enter func107,ntmps107
       go_wp2_with fail;rw[←z];clear z;refine(gL J.base _ _ (I0.out.below F) HS.out).mono ?_
       rintro e w1 ⟨rfl,y⟩;rw[HT.out];have IF:=hid (Iy.out.below y);obtain⟨IS,A,_⟩:=IF.out
       have c1:=A.cell 1 rfl;have c2:=A.cell 2 rfl;clear A;have Iw:=ag F y;have Ix:w.heap.size+1+1<w1.heap.size:=Nat.lt_of_lt_of_le IE y.size;clear y;go_wp2_with fail;go_loopw [52] (fun i wr=> ∃k:Nat,k≤J.cos.length∧i= .int .i64 k∧Hid (Kp wr (w.heap.size+1+1) (w.heap.size+1) (.slice N J.base.length d) J.first (.slice cb J.cos.length f) (bQ J k) k (Jn.D (J.cos.take k)))∧Hid (gA J (bQ J k) k)∧Hid (Pp.Good (bQ J k))∧Below w.heap.size w wr∧w.heap.size+1+1<wr.heap.size) (fun i _=>J.cos.length-(intOf i).toNat)
       case atStart=>exact⟨0,Nat.zero_le _,rfl,by rw[ly,List.take_zero];exact IF,by rw[ly];exact Jn.left_zero J,by rw[ly];exact HG,Iw,Ix⟩
       case round=>
        obtain⟨k,hk,rfl,HK,HL,IX,P,IP⟩:=hrel
        clear Iw Ix c1 c2;by_cases G:k<J.cos.length
        · obtain⟨b,o,rfl,hb,he⟩:=HC.out k G
          obtain⟨c0,c1,u,c2,hu⟩:=he.below hb P
          have HZ:=hid (IV.out J.cos[k] (List.getElem_mem G));have Y:=hid (show¬cT J.cos[k] (J.first+k)=0→bq J=cT J.cos[k] (J.first+k)from fun K=>Iv.out _ _ (uQ HL.out G K) K);have X:=hid (show cT J.cos[k] (J.first+k)=0→ ¬cF (bQ J k) J.cos[k].ch J.cos[k].nu=0→bq J=cF (bQ J k) J.cos[k].ch J.cos[k].nu from fun K O=>Iv.out _ _ (uR HL.out G K O) O);have IA:=hid (show cT J.cos[k] (J.first+k)=0→cF (bQ J k) J.cos[k].ch J.cos[k].nu=0→gA J (bQ J (k+1)) (k+1)from fun K O=>by rw[ow G];exact Jn.left_next HL.out G K O);have Z:Hid (bQ J (k+1)=dQ (bQ J k) J.cos[k].ch J.cos[k].nu):=ow G;have HD:Hid (Jn.D (J.cos.take (k+1))=(Jn.D (J.cos.take k)).put (Jn.key J.cos[k].ke) (Jn.num J.cos[k].nu)):=uW G;clear he;generalize J.cos[k]=ck at*;obtain⟨nu,ke,ch⟩:=ck
          simp only at c0 c1 c2 hu;have IG:=hid (show ke.size≤maxLen from by have:ke.size≤150000000000000:=HZ.out.1;unfold maxLen;omega);have HU:=hid hu;obtain⟨ua,S,rfl,_,_,_⟩:=hu
          obtain⟨wy,M⟩: ∃wy,wy=wr.alloc (.cells #[.int .i64 nu,.string ke,.slice ua ch.length S] 110):=⟨_,rfl⟩
          have I8:Below wr.heap.size wr wy:=by rw[M];exact(Below.refl _ _).alloc (Nat.le_refl _) _
          have y0:wy.cell? ⟨wr.heap.size,0,none⟩=some (.int .i64 nu):=by rw[M];simp
          have y1:wy.cell? ⟨wr.heap.size,1,none⟩=some (.string ke):=by rw[M];simp
          have al:wy.cell? ⟨wr.heap.size,2,none⟩=some (.slice ua ch.length S):=by rw[M];simp
          have Q:wr.heap.size<wy.heap.size:=by rw[M];simp
          have IH:=hid (HK.out.below I8);obtain⟨vt,hB,_⟩:=IH.out
          have y3:=hB.cell 1 rfl;clear hB;have Jf:IntKind.i64.wrap (J.first+(k:Int))=J.first+k:=by rw[IntKind.wrap_i64];omega
          go_wp2_with fail;rw[←M];clear M c0 c1 c2
          go_region_held3 (fun W=>W.cell? ⟨wr.heap.size,0,none⟩=some (.int .i64 nu)∧W.cell? ⟨wr.heap.size,1,none⟩=some (.string ke)∧W.cell? ⟨wr.heap.size,2,none⟩=some (.slice ua ch.length S)∧W.cell? ⟨w.heap.size+1+1,1,none⟩=some (.int .i64 J.first)) (go_keep) (first
           |(go_at_call 149;refine(Bn ⟨nu,ke,ch⟩ _ (J.first+k) _ (HU.out.below (ag I8 (Below.refl _ _).drew)) IG.out).mono ?_;rintro e wa ⟨rfl,Jb⟩;have I:Below wy.heap.size wy wa:=((Below.refl _ _).drew).trans Jb;have j0:=(I.cell (p:=⟨wr.heap.size,0,none⟩) Q).trans y0;have j1:=(I.cell (p:=⟨wr.heap.size,1,none⟩) Q).trans y1;have j2:=(I.cell (p:=⟨wr.heap.size,2,none⟩) Q).trans al;have j3:=(I.cell (p:=⟨w.heap.size+1+1,1,none⟩) (Nat.lt_trans IP Q)).trans y3))
          have I6:=ag P (ag I8 I);have J1:=hid (IH.out.below I);have Ja:=hid (HU.out.below (ag I8 I));have Ji:=I.size;by_cases K:cT ⟨nu,ke,ch⟩ (J.first+k)=0
          · obtain⟨n1,n2,_,_⟩:=B5 K
            have IN:(Lit.int .i64 nu).wf=true:=vP (by simp only at n1;omega) (by simp only at n1;omega);have J6:=hid IN;clear n1 n2 IN;have HA:=hid (X.out K);have HN:=hid (IA.out K);have J8:=hid (q9 IX.out);have J4:=hid (show k<maxLen from by unfold maxLen;omega);have IY:=hid (show w.heap.size≤w.heap.size+1+1 from by omega);have IZ:=hid (show w.heap.size≤w.heap.size+1 from by omega);rw[K];clear K Y X IA;go_wp2_with fail;refine(B4 ⟨nu,ke,ch⟩ (.slice ua ch.length S) (w.heap.size+1+1) (w.heap.size+1) k (.slice N J.base.length d) (.slice (some ⟨b,o,none⟩) J.cos.length f) J.first (bQ J k) (Jn.D (J.cos.take k)) wa Ja.out HZ.out.2 IG.out J6.out J1.out J8.out J4.out vO vO).mono ?_
            rintro e w4 ⟨rfl,IM,II⟩;have IB:Below w.heap.size wa w4:=IM.to (by omega) IY.out IZ.out;clear IM;have Iz:=hid II;have I5:=I6.trans IB;have Jh:=IB.size;clear II IB;by_cases O:cF (bQ J k) ch nu=0
            · have I7:=Iz.out O
              simp only at I7;rw[←Z.out,←HD.out]at I7;have J0:=hid I7;have J5:=hid (HN.out O);have IW:=hid (show Pp.Good (bQ J (k+1))from by rw[Z.out];exact qL O);rw[O];clear O I7 Iz HA HN Z HD;go_wp2_with fail;go_roundw
              case rel=>exact⟨k+1,by omega,by simp,J0,J5,IW,I5,by omega⟩
              case measure=>simp[intOf];omega
            · have E:=hid (HA.out O)
              have H1:=hid O;have hz:(cF (bQ J k) ch nu==0)=false:=by simpa using O
              clear O Iz HA HN Z HD;go_wp2_with fail;go_ret2;exact⟨_,by rw[E.out];rfl,fun h=>absurd (E.out▸h) H1.out,fun _=>rfl,I5⟩
          · have E:=hid (Y.out K)
            have hz:(cT ⟨nu,ke,ch⟩ (J.first+k)==0)=false:=by simpa using K
            have H0:=hid K;clear K Y X IA Z HD;go_wp2_with fail;go_ret2;exact⟨_,by rw[E.out];rfl,fun h=>absurd (E.out▸h) H0.out,fun _=>rfl,I6⟩
        · obtain rfl:k=J.cos.length:=by omega
          rw[List.take_length]at HK;have hr:=Jn.left_end HL.out;obtain⟨vt,hB,IJ,hM,Jm⟩:=HK.out
          have c2:=hB.cell 2 rfl;have c4:=hB.cell 4 rfl;have Jg:=fun ty=>hM.drew.len underlying133 ty
          have I9:=Jn.D_size J.cos;by_cases U:Jn.Apart J.cos
          · have IE:(Maps.size (Jn.D J.cos):Int)=J.cos.length:=by rw[I9.2.2 U]
            obtain⟨ae,hT⟩:=J7.out _ hr U
            have E:=hid ae;have J3:=hid (show nB wr (.pointer (some ⟨w.heap.size+1+1,0,none⟩)) w.heap.size (.agg #[.slice N J.base.length d,.int .i64 J.first,.slice cb J.cos.length f]) J from⟨w.heap.size+1+1,w.heap.size+1,_,_,J.cos.length,rfl,rfl,by omega,by omega,by rw[hT];exact HK.out,by omega⟩);clear ae hT hr hB IJ hM I9 U;go_wp2_with fail;go_region
            have J2:=hid (J3.out.below (Below.refl _ _).drew);have IC:=ag P (Below.refl _ _).drew;go_wp2_with fail;go_ret2;exact⟨_,by rw[E.out];rfl,fun _=>J2.out,fun h=>absurd E.out h,IC⟩
          · have IE:(Maps.size (Jn.D J.cos):Int)<J.cos.length:=by
             rcases Nat.lt_or_ge (Maps.size (Jn.D J.cos)) J.cos.length with h|h
             · omega
             · exact absurd (I9.2.1 (by omega)) U
            have E:=hid (J9.out _ hr U);clear hr hB IJ hM I9 U;have IC:=ag P (Below.refl _ _).drew;go_wp2_with fail;go_region
            go_wp2_with fail;go_ret2;exact⟨_,by rw[E.out];rfl,(fun h=>by rw[E.out]at h;exact absurd h (by decide)),fun _=>rfl,IC⟩
   · have E:=hid (qH V hf)
     have ID:J.first<1∨1000000<J.first:=by
      rcases Int.lt_or_le J.first 1 with h|h
      · exact Or.inl h
      · rcases Int.lt_or_le 1000000 J.first with h2|h2
        · exact Or.inr h2
        · exact absurd (qF.2 ⟨h,h2⟩) hf
     clear V hf;rcases ID with ID|ID
     all_goals
      try (have Jk: ¬J.first<1:=by omega)
      go_enter func107,ntmps107
      go_wp2_with fail;rw[←z];clear z;refine(gL J.base _ _ (I0.out.below F) HS.out).mono ?_
      rintro e w1 ⟨rfl,y⟩;rw[HT.out];obtain⟨IS,A,_⟩:=Iy.out.below y
      have c1:=A.cell 1 rfl;clear A;go_wp2_with fail;go_ret2;exact⟨_,by rw[E.out];rfl,(fun h=>by rw[E.out]at h;exact absurd h (by decide)),fun _=>rfl,ag F y⟩
 · have Jp:(aH J.base==0)=false:=by simpa using V
   have E:=hid (qG V);have HN:=hid V;go_enter func107,ntmps107
   go_wp2_with fail;rw[←z];clear z;refine(gL J.base _ _ (I0.out.below F) HS.out).mono ?_
   rintro e w1 ⟨rfl,y⟩;go_wp2_with fail;go_ret2;exact⟨_,by rw[E.out];rfl,fun h=>absurd (E.out▸h) HN.out,fun _=>rfl,ag F y⟩
theorem Tryz.infoRO:(prog.info? 110).map (fun i=>(i.zero,i.size,i.bytes))=some (some (.agg #[.int .i64 0,.string ⟨#[]⟩,.slice none 0 0]),3,48):=by kernel_rfl
theorem B6 (R:List (List Value)) (v:Value) (w:World) (hv:aW 3 w v R) (hn:R.length≤1000000000000):
    Calls prog 190 #[v] w fun e w'=> ∃u,e= .returned u∧aW 3 w' u R∧aI w.heap.size w' u∧Below w.heap.size w w':=by
 obtain⟨aZ,Q,U,V,X⟩:=info_parts Tryz.infoRO
 obtain⟨a,O,rfl,I0,P,G,f⟩:=hv
 have M:=hid G;have I6: ∀(w:World) (a:Option Addr) (n c Y N:Nat),(binOp .eql 53 (.slice a n c) (.slice none Y N)).run prog w= .ok (.bool a.isNone) w:=fun w a n c Y N=>Lib.run_eql_slice_nil w _ _ a n c Y N underlying53
 cases a with
 |none=>
  have hL:R=[]:=by
   cases R with
   |nil=>rfl
   |cons s r=>obtain⟨b,o,hb,_⟩:=f 0 (by simp);cases hb
  subst hL;clear G;go_enter func190,ntmps190
  go_wp2;go_ret;exact⟨_,rfl,⟨none,0,rfl,Nat.le_refl _,by simp,M.out,fun i h=>absurd h (by simp)⟩,gM _ _,Below.refl _ _⟩
 |some ad=>
  have d: ∀j u,R.flatten[j]?=some u→w.cell? (ad.add j)=some u:=by
   cases R with
   |nil=>intro j u S;simp at S
   |cons s r=>
    obtain⟨b,o,hb,_⟩:=f 0 (by simp)
    injection hb with hb
    subst hb
    exact jX (by decide) (fun r T=>(G r T).1) fun i hi=>by
     obtain⟨b',o',z,_,he⟩:=f i hi
     injection z with z
     injection z with h1 h2
     subst h1;subst h2;exact he
  have HC:=hid d;have J:=hid (iu (fun r T=>(G r T).1):R.flatten.length=R.length*3);clear d f G;go_enter func190,ntmps190
  go_wp2_with (at_builtin;refine wpList_append_own _ rfl _ _ 53 rfl w.heap.size 110 aZ (.agg #[.int .i64 0,.string ⟨#[]⟩,.slice none 0 0]) 3 48 underlying53 Q U V X rfl (by decide) _ _ _ rfl (World.ownsRow_made w #[] 0 (Nat.le_refl _) (Nat.zero_le _) (by simp)) ad R.length O R.flatten rfl ?qc1 ?qc2 ?qc3 ?qc4 ?qc5 ?qc6 ?_)
  case qc1=>exact J.out
  case qc2=>intro j u S;exact Lib.cell?_alloc_some _ (HC.out j u S)
  case qc3=>exact kL M.out
  case qc4=>unfold maxLen;omega
  case qc5=>omega
  case qc6=>simp
  intro v2 w2 I y H;have A:Below w.heap.size w w2:=((Below.refl _ _).alloc (Nat.le_refl _) _).grown y (by simp) (fun k hk=>by simp[Value.ownBlock]at hk;omega);have E:w2.ownsRow w.heap.size 110 3 v2 R.length R.flatten:=by simpa using I
  have F:=hid (iN E (by omega) M.out);have K:=hid (iM E);obtain⟨a2,Z,I5,_,_,_⟩:=F.out
  clear I E y H;go_wp2_with fail;go_ret;exact⟨_,rfl,F.out,K.out,A⟩
def iv (c:Co) (u:Value):List Value:=[.int .i64 c.nu,.string c.ke,u]
def dS (l:List Co) (us:List Value):List (List Value):=List.zipWith iv l us
theorem iX {l:List Co} {us:List Value} (h:us.length=l.length):(dS l us).length=l.length:=by simp[dS,h]
theorem oE {l:List Co} {us:List Value} (h:us.length=l.length) {i:Nat} (d:i<l.length):(dS l us)[i]?=some (iv l[i] (us[i]'(by omega))):=by
 rw[dS,List.getElem?_zipWith,List.getElem?_eq_getElem d,List.getElem?_eq_getElem (by omega)]
theorem B7 {l:List Co} {us:List Value} (h:us.length=l.length) {i:Nat} (d:i<l.length) (u:Value):(dS l us).set i (iv l[i] u)=dS l (us.set i u):=by
 apply List.ext_getElem?
 intro j;rw[List.getElem?_set,dS,dS,List.getElem?_zipWith,List.getElem?_zipWith,List.getElem?_set];by_cases f:i=j
 · subst f
   have y:i<(List.zipWith iv l us).length:=by simp[h];omega
   simp[h,d,List.getElem?_eq_getElem d,show i<us.length by omega]
 · simp[f]
def kR (w:World) (l:List Co) (us:List Value):Prop:=us.length=l.length∧ ∀(i:Nat) (c:Co) (u:Value),l[i]?=some c→us[i]?=some u→cj w u c.ch
theorem B8 {w:World} {v:Value} {l:List Co} (h:eG w v l): ∃M,kR w l M∧aW 3 w v (dS l M):=by
 obtain⟨a,J,T,N,O,P⟩:=h
 have y: ∀i:Fin l.length,∃u,cj w u l[i].ch∧ ∃b o,a=some ⟨b,o,none⟩∧b<w.heap.size∧w.cell? ⟨b,o+i*3,none⟩=some (.int .i64 l[i].nu)∧w.cell? ⟨b,o+i*3+1,none⟩=some (.string l[i].ke)∧w.cell? ⟨b,o+i*3+2,none⟩=some u:=fun i=>by
  obtain⟨b,o,K,hb,G,H,u,I,f⟩:=P i i.2
  exact⟨u,f,b,o,K,hb,G,H,I⟩
 have d:(List.ofFn fun i:Fin l.length=>Classical.choose (y i)).length=l.length:=by simp
 refine⟨List.ofFn (fun i:Fin l.length=>Classical.choose (y i)),⟨d,?_⟩,a,J,by rw[iX d];exact T,by rw[iX d];exact N,by rw[iX d];exact O,?_,?_⟩
 · intro i c u E f
   have z:i<l.length:=(List.getElem?_eq_some_iff.1 E).1;rw[List.getElem?_eq_getElem z]at E;injection E with E
   rw[List.getElem?_eq_getElem (by simpa using z),List.getElem_ofFn]at f;injection f with f
   rw[←E,←f];exact(Classical.choose_spec (y ⟨i,z⟩)).1
 · intro r Q
   obtain⟨i,z⟩:=List.getElem?_of_mem Q
   have A:i<l.length:=by
    have:=(List.getElem?_eq_some_iff.1 z).1
    rw[iX d]at this;exact this
   rw[oE d A]at z;injection z with z
   rw[←z];refine⟨rfl,fun u f=>?_⟩
   simp only[iv,List.mem_cons,List.not_mem_nil,or_false]at f;rcases f with rfl|rfl|rfl
   · rfl
   · rfl
   · rw[List.getElem_ofFn]
     obtain⟨_,_,S,_⟩:=(Classical.choose_spec (y ⟨i,A⟩)).1
     rw[S];rfl
 · intro i z
   have A:i<l.length:=by rw[iX d]at z;exact z
   obtain⟨b,o,K,hb,G,H,I⟩:=(Classical.choose_spec (y ⟨i,A⟩)).2
   refine⟨b,o,K,hb,fun c u f=>?_⟩
   have F:(dS l (List.ofFn fun i:Fin l.length=>Classical.choose (y i)))[i]?=some (iv l[i] (Classical.choose (y ⟨i,A⟩))):=by rw[oE d A,List.getElem_ofFn]
   rw[List.getElem?_eq_getElem z]at F;injection F with F
   rw[F]at f;match c,f with
   |0,f=>simp[iv]at f;subst f;exact G
   |1,f=>simp[iv]at f;subst f;exact H
   |2,f=>simp[iv]at f;subst f;exact I
   |c+3,f=>simp[iv]at f
theorem vQ {w:World} {v:Value} {l:List Co} {us:List Value} (M:kR w l us) (h:aW 3 w v (dS l us)):eG w v l:=by
 obtain⟨d,E⟩:=M
 obtain⟨a,A,I,G,H,_,J⟩:=h
 rw[iX d]at I G H;refine⟨a,A,I,G,H,fun i F=>?_⟩
 have f:i<(dS l us).length:=by rw[iX d];exact F
 obtain⟨b,o,K,hb,y⟩:=J i f
 have z:=oE d F;rw[List.getElem?_eq_getElem f]at z;injection z with z
 rw[z]at y;exact⟨b,o,K,hb,y 0 _ rfl,y 1 _ rfl,us[i]'(by omega),y 2 _ rfl,E i _ _ (List.getElem?_eq_getElem F) (List.getElem?_eq_getElem (by omega))⟩
def dT (B:Nat) (w:World) (v:Value) (l:List Co):Prop:= ∃us,kR w l us∧aW 3 w v (dS l us)∧aI B w v∧ ∀u∈us,aI B w u
theorem dT.lies {B:Nat} {w:World} {v:Value} {l:List Co} (h:dT B w v l):eG w v l:=by
 obtain⟨y,d,f,_⟩:=h
 exact vQ d f
theorem kR.below {w w':World} {l:List Co} {us:List Value} (h:kR w l us) (y:Below w.heap.size w w'):kR w' l us:=⟨h.1,fun i c u d f=>(h.2 i c u d f).below y⟩
theorem dT.below {B:Nat} {w w':World} {v:Value} {l:List Co} (h:dT B w v l) (d:Below w.heap.size w w'):dT B w' v l:=by
 obtain⟨F,f,y,z,A⟩:=h
 exact⟨F,f.below d,y.below d,z.below d,fun u E=>(A u E).below d⟩
theorem dT.mono {B B':Nat} {w:World} {v:Value} {l:List Co} (h:dT B w v l) (d:B'≤B):dT B' w v l:=by
 obtain⟨F,f,y,z,A⟩:=h
 exact⟨F,f,y,z.mono d,fun u E=>(A u E).mono d⟩
theorem aW.set {n:Nat} {w:World} {a:Option Addr} {k cap b o:Nat} {R:List (List Value)} (h:aW n w (.slice a k cap) R) (P:a=some ⟨b,o,none⟩) {i c:Nat} (S:i<R.length) (Q:c<n) (u:Value) (Z:u.oneCell'=true):
    aW n (w.setCell ⟨b,o+i*n+c,none⟩ u) (.slice a k cap) (R.set i (R[i].set c u)):=by
 obtain⟨a',O,hv,U,V,G,X⟩:=h
 injection hv with H aE T
 subst H;subst aE;subst T;refine⟨a,cap,by simp,by simpa using U,by simpa using V,?_,fun j Y=>?_⟩
 · intro r N
   rcases List.mem_or_eq_of_mem_set N with N|rfl
   · exact G r N
   · refine⟨by rw[List.length_set];exact(G _ (List.getElem_mem S)).1,fun x f=>?_⟩
     rcases List.mem_or_eq_of_mem_set f with f|rfl
     · exact(G _ (List.getElem_mem S)).2 x f
     · exact Z
 · have E:j<R.length:=by simpa using Y
   obtain⟨b',o',y,J,K⟩:=X j E
   rw[P]at y;injection y with y
   injection y with H aE
   subst H;subst aE;refine⟨b,o,P,by simpa using J,fun d x f=>?_⟩
   have M:R[j].length=n:=(G _ (List.getElem_mem E)).1;by_cases A:i=j
   · subst A
     rw[List.getElem_set_self]at f;by_cases z:c=d
     · subst z
       rw[List.getElem?_set_self (by rw[M];exact Q)]at f;injection f with f
       subst f;have F:=K c (R[i][c]'(by rw[M];exact Q)) (List.getElem?_eq_getElem _);exact World.cell?_setCell_same' _ _ _ (by rw[F];rfl)
     · rw[List.getElem?_set_ne z]at f
       rw[World.cell?_setCell_other (h:=fun e=>z (by injection e with _ aE;omega))];exact K d x f
   · rw[List.getElem_set_ne A]at f
     have hd:d<n:=by
      have:=(List.getElem?_eq_some_iff.1 f).1
      rw[M]at this;exact this
     rw[World.cell?_setCell_other (h:=fun e=>by
      injection e with _ aE
      rcases Nat.lt_or_ge i j with h|h
      · have I:(i+1)*n≤j*n:=Nat.mul_le_mul_right n h
        rw[Nat.add_mul]at I;omega
      · have I:(j+1)*n≤i*n:=Nat.mul_le_mul_right n (by omega)
        rw[Nat.add_mul]at I;omega)]
     exact K d x f
def Cl (N:Nat) (ga:Value) (wr:World) (l:List Co) (us0 us:List Value) (k:Nat):Prop:=us.length=l.length∧
 (∀(j:Nat) (c:Co) (u:Value),j<k→l[j]?=some c→us[j]?=some u→cj wr u c.ch∧aI N wr u∧ ∀b,u.ownBlock=some b→ga.ownBlock≠some b)∧ ∀j,k≤j→us[j]?=us0[j]?
theorem Cl.below {N:Nat} {A:Value} {w w':World} {l:List Co} {d us:List Value} {k:Nat} (h:Cl N A w l d us k) (E:Below w.heap.size w w'):Cl N A w' l d us k:=
 ⟨h.1,fun j c u y f z=>⟨(h.2.1 j c u y f z).1.below E,(h.2.1 j c u y f z).2.1.below E,(h.2.1 j c u y f z).2.2⟩,h.2.2⟩
theorem Cl.next {N:Nat} {w:World} {l:List Co} {F us:List Value} {k b o x n cap:Nat} {u:Value} (h:Cl N (.slice (some ⟨b,o,none⟩) n cap) w l F us k) (P:k<l.length) (S:cj w u l[k].ch) (Q:aI N w u) (E: ∀g,u.ownBlock=some g→b≠g):
    Cl N (.slice (some ⟨b,o,none⟩) n cap) (w.setCell ⟨b,x,none⟩ u) l F (us.set k u) (k+1):=by
 obtain⟨J,K,M⟩:=h
 refine⟨by rw[List.length_set];exact J,fun j c y O f d=>?_,fun j O=>?_⟩
 · by_cases A:k=j
   · subst A
     rw[List.getElem?_set_self (by omega)]at d;injection d with d
     subst d;rw[List.getElem?_eq_getElem P]at f;injection f with f
     subst f;exact⟨S.nbo (ar _ _ _ _) (fun g z e=>E g z e.symm),Q.setCell _ _ _,fun g z e=>E g z (by simpa[Value.ownBlock]using e)⟩
   · rw[List.getElem?_set_ne A]at d
     obtain⟨H,I,G⟩:=K j c y (by omega) f d
     exact⟨H.nbo (ar _ _ _ _) (fun g z e=>G g z (by simp[Value.ownBlock,e])),I.setCell _ _ _,G⟩
 · rw[List.getElem?_set_ne (by omega)]
   exact M j (by omega)
theorem Cl.done {N:Nat} {F:Value} {w:World} {l:List Co} {y us:List Value} (h:Cl N F w l y us l.length):kR w l us∧ ∀u∈us,aI N w u:=by
 obtain⟨G,z,_⟩:=h
 refine⟨⟨G,fun i c u A f=>(z i c u (List.getElem?_eq_some_iff.1 A).1 A f).1⟩,fun u f=>?_⟩
 obtain⟨i,E⟩:=List.getElem?_of_mem f
 have d:i<l.length:=by have:=(List.getElem?_eq_some_iff.1 E).1;omega
 exact(z i _ u d (List.getElem?_eq_getElem d) E).2.1
theorem B9 (l:List Co) (v:Value) (w:World) (hv:eG w v l) (hn:l.length≤1000) (ID: ∀c∈l,c.ch.length≤1000000000):
    Calls prog 147 #[v] w fun e w'=> ∃u,e= .returned u∧dT w.heap.size w' u l∧Below w.heap.size w w':=by
 have HV:=hid hv;have T:=hid ID;clear ID;obtain⟨z,G,Iw⟩:=B8 hv
 have S:=hid G;have IJ:=hid Iw;have P:=G.1;obtain⟨_,_,rfl,_⟩:=hv
 clear G Iw;go_enter func147,ntmps147
 go_wp2_with fail;refine(B6 (dS l z) _ _ IJ.out (by rw[iX P];omega)).mono ?_
 rintro e w1 ⟨u,rfl,Ix,I9,IN⟩;have M:=hid Ix;have K:=hid I9;have IR:=iX P;obtain⟨ga,d,rfl,IP,_⟩:=Ix
 rw[IR]at M K IP⊢;clear I9;go_wp2_with fail;go_loopw [9] (fun i wr=> ∃(k:Nat) (H:List Value),k≤l.length∧i= .int .i64 k∧Hid (aW 3 wr (.slice ga l.length d) (dS l H))∧Hid (aI w.heap.size wr (.slice ga l.length d))∧Hid (Cl w.heap.size (.slice ga l.length d) wr l z H k)∧Below w.heap.size w wr) (fun i _=>l.length-(intOf i).toNat)
 case atStart=>exact⟨0,z,Nat.zero_le _,rfl,M,K,⟨P,fun j c u hj=>absurd hj (Nat.not_lt_zero _),fun j _=>rfl⟩,IN⟩
 case round=>
  obtain⟨k,H,hk,rfl,HR,HO,I,F⟩:=hrel
  clear M K;by_cases A:k<l.length
  · have Q:=I.out.1
    have O:k<(dS l H).length:=by rw[iX Q];exact A
    have f:=oE Q A;rw[List.getElem?_eq_getElem O]at f;injection f with f
    obtain⟨a',IT,IS,_,_,_,Iz⟩:=HR.out
    injection IS with e1 aE e3
    subst e1;clear aE e3;obtain⟨b,o,IQ,hb,he⟩:=Iz k O
    subst IQ;rw[f]at he;have c2:=he 2 _ rfl
    have IE:H[k]'(by omega)=z[k]'(by omega):=by
     have:=I.out.2.2 k (Nat.le_refl _)
     rw[List.getElem?_eq_getElem (by omega),List.getElem?_eq_getElem (by omega)]at this;injection this
    rw[IE]at c2;have I7:=S.out.2 k l[k] (z[k]'(by omega)) (List.getElem?_eq_getElem A) (List.getElem?_eq_getElem (by omega));have V:=hid (nv.1 (I7.below F));have IG:=hid (show((l[k]).ch.map ib).length≤1000000000000 from by rw[List.length_map];exact Nat.le_trans (T.out _ (List.getElem_mem A)) (by decide));obtain⟨xa,xc,hx,_⟩:=I7
    rw[hx]at c2 V;have IM:=hid f;have Y:Hid (∀(w':World) (y:Value),Cl w.heap.size (.slice (some ⟨b,o,none⟩) l.length d) w' l z H k→cj w' y (l[k]).ch→aI w.heap.size w' y→(∀g,y.ownBlock=some g→b≠g)→Cl w.heap.size (.slice (some ⟨b,o,none⟩) l.length d) (w'.setCell ⟨b,o+k*3+2,none⟩ y) l z (H.set k y) (k+1)):=(fun w' y h1 h2 h3 h4=>h1.next A h2 h3 h4:_)
    have I6:=hid (show∀y,(dS l H).set k (((dS l H)[k]).set 2 y)=dS l (H.set k y)from fun y=>by rw[f,←B7 Q A];rfl);clear f Iz he IE hx;generalize IC:(l[k]).ch=az at*;clear IC;go_wp2_with fail;refine(uJ (az.map ib) _ _ V.out IG.out).mono ?_
    rintro e w2 ⟨y,rfl,Iy,Iv,E⟩;have X:=hid (nv.2 Iy);have I0:=hid Iv;obtain⟨ya,yc,rfl,_⟩:=X.out
    have IK:=hid (HR.out.below E);have Z:=hid (HO.out.below E);have U:=hid (I.out.below E);have IA:=ag F E;have I8:w.heap.size≤b:=(HO.out b rfl).1;obtain⟨_,cur,TT,J⟩:=Z.out b rfl
    have IU:w2.frozen? ⟨b,o+k*3+2,none⟩=false:=by simp[World.frozen?,J]
    have d2:=(E.cell (p:=⟨b,o+k*3+2,none⟩) hb).trans c2;have IH:=hid (show∀g,(Value.slice ya az.length yc).ownBlock=some g→b≠g from fun g hg=>by have:=(I0.out g hg).1;omega);have I5:=hid (I0.out.mono (Nat.le_trans I8 (Nat.le_of_lt hb)));have IF:=hid (Y.out w2 _ U.out X.out I5.out IH.out);have N:=IK.out.set rfl O (by decide:2<3) (.slice ya az.length yc) rfl;rw[I6.out]at N;have IL:=hid N;have II:=hid (Z.out.setCell b (o+k*3+2) (.slice ya az.length yc));have IB:Below w.heap.size w (w2.setCell ⟨b,o+k*3+2,none⟩ (.slice ya az.length yc)):=IA.setCell (p:=⟨b,o+k*3+2,none⟩) I8 _;clear Iy Iv N J Y I6 IM;go_wp2_with fail;go_roundw
    case rel=>exact⟨k+1,_,by omega,by simp,IL,II,IF,IB⟩
    case measure=>simp[intOf];omega
  · obtain rfl:k=l.length:=by omega
    obtain⟨h1,h2⟩:=I.out.done
    have HD:=hid (show dT w.heap.size wr (.slice ga l.length d) l from⟨H,h1,HR.out,HO.out,h2⟩);clear h1 h2;go_wp2_with fail;go_ret;exact⟨_,rfl,HD.out,F⟩
theorem dT.nbo {B:Nat} {W y:World} {v:Value} {l:List Co} {g:Nat} (h:dT B W v l) (f:W.grownBy y (some g)) (K:g<B):dT B y v l:=by
 obtain⟨H,z,I,A,E⟩:=h
 have F: ∀b,v.ownBlock=some b→b≠g:=fun b hb=>by have:=(A b hb).1;omega
 have G: ∀u∈H,∀b,u.ownBlock=some b→b≠g:=fun u d b hb=>by have:=(E u d b hb).1;omega
 exact⟨H,⟨z.1,fun i c u J d=>(z.2 i c u J d).nbo f (G u (List.mem_of_getElem? d))⟩,I.nbo f F,A.nb f F,fun u d=>(E u d).nb f (G u d)⟩
def kc (B:Nat) (w:World) (v:Value) (J:Jo):Prop:= ∃vb vc,v= .agg #[vb,.int .i64 J.first,vc]∧an w vb J.base∧aI B w vb∧dT B w vc J.cos
theorem kc.lies {B:Nat} {w:World} {v:Value} {J:Jo} (h:kc B w v J):iR w v J:=by
 obtain⟨z,A,d,f,_,y⟩:=h
 exact⟨z,A,d,f,y.lies⟩
theorem kc.below {B:Nat} {w w':World} {v:Value} {J:Jo} (h:kc B w v J) (d:Below w.heap.size w w'):kc B w' v J:=by
 obtain⟨E,F,f,y,z,A⟩:=h
 exact⟨E,F,f,y.below d,z.below d,A.below d⟩
theorem kc.mono {B B':Nat} {w:World} {v:Value} {J:Jo} (h:kc B w v J) (d:B'≤B):kc B' w v J:=by
 obtain⟨E,F,f,y,z,A⟩:=h
 exact⟨E,F,f,y,z.mono d,A.mono d⟩
theorem Ca (J:Jo) (v:Value) (w:World) (hv:iR w v J) (hn:J.cos.length≤1000) (IE:J.base.length≤1000) (I5: ∀c∈J.cos,c.ch.length≤1000000000):
    Calls prog 99 #[v] w fun e w'=> ∃u,e= .returned u∧kc w.heap.size w' u J∧Below w.heap.size w w':=by
 obtain⟨vb,vc,rfl,I6,I7⟩:=hv
 have IA:=hid I6;have IB:=hid I7;have Iv:=hid I5;obtain⟨ba,bc,rfl,_⟩:=I6
 obtain⟨S,T,rfl,_⟩:=I7
 clear I5;obtain⟨K,A⟩: ∃K,K=(w.alloc (.cells #[.slice ba J.base.length bc,.int .i64 J.first,.slice S J.cos.length T] 79)).alloc (.cells #[.slice none 0 0,.int .i64 0,.slice none 0 0] 79):=⟨_,rfl⟩
 have I0:Below w.heap.size w K:=by rw[A];exact((Below.refl _ _).alloc (Nat.le_refl _) _).alloc (by simp) _
 have I9:=hid (show Cs K w.heap.size [.slice ba J.base.length bc,.int .i64 J.first,.slice S J.cos.length T]from by rw[A];exact(Cs.new w [.slice ba J.base.length bc,.int .i64 J.first,.slice S J.cos.length T] _).below ((Below.refl _ _).alloc (Nat.le_refl _) _))
 have O:=hid (show Cs K (w.heap.size+1) [.slice none 0 0,.int .i64 0,.slice none 0 0]from by
  have:=Cs.new (w.alloc (.cells #[.slice ba J.base.length bc,.int .i64 J.first,.slice S J.cos.length T] 79)) [.slice none 0 0,.int .i64 0,.slice none 0 0] 79
  rw[A];simpa using this)
 go_enter func99,ntmps99
 go_wp2_with fail;rw[←A];clear A;refine(oo (J.base.map Pp.cells) _ _ (kM.1 (IA.out.below I0)) (by simp;omega)).mono ?_
 rintro e w1 ⟨u1,rfl,X,U,G⟩;have P:=hid (kM.2 X);have Q:=hid U;obtain⟨M,N,rfl,_⟩:=P.out
 have ID:w.heap.size+1<K.heap.size:=O.out.lt;have IG:=G.size;have E:=hid (I9.out.below G);have c0:=E.out.cell 0 rfl;have f0:=E.out.fr 0;have d2:=E.out.cell 2 rfl;obtain⟨I,d⟩: ∃I,I=w1.setCell ⟨w.heap.size,0,none⟩ (.slice M J.base.length N):=⟨_,rfl⟩
 have IH:I.heap.size=w1.heap.size:=by rw[d];simp
 have I8:=hid (show Cs I w.heap.size [.slice M J.base.length N,.int .i64 J.first,.slice S J.cos.length T]from by rw[d];exact E.out.set 0 _);have IC:=hid (show Cs I (w.heap.size+1) [.slice none 0 0,.int .i64 0,.slice none 0 0]from by rw[d];exact(O.out.below G).other (by omega) _);have Iw:=hid (show an I (.slice M J.base.length N) J.base from by rw[d];exact P.out.nbo (ar _ _ _ _) (fun b hb=>by have:=(Q.out b hb).1;omega));have Iy:=hid (show aI K.heap.size I (.slice M J.base.length N)from by rw[d];exact Q.out.setCell _ _ _);have Z:Below w.heap.size w I:=by rw[d];exact(ag I0 G).setCell (p:=⟨w.heap.size,0,none⟩) (Nat.le_refl _) _
 clear X U;go_wp2_with fail;rw[←d];clear d c0 f0 d2;refine(B9 J.cos _ _ (IB.out.below Z) hn Iv.out).mono ?_
 rintro e w3 ⟨u3,rfl,V,y⟩;have Iz:=hid V;obtain⟨IJ,H,⟨ya,yc,hy,_⟩,_⟩:=V
 rw[iX H.1]at hy;subst hy;clear H;have II:=y.size;have F:=hid (I8.out.below y);have f:=hid (IC.out.below y);have c0:=F.out.cell 0 rfl;have c1:=F.out.cell 1 rfl;have c2:=F.out.cell 2 rfl;have f2:=F.out.fr 2;have y0:=f.out.cell 0 rfl;have y1:=f.out.cell 1 rfl;have al:=f.out.cell 2 rfl;have g0:=f.out.fr 0;have g1:=f.out.fr 1;have g2:=f.out.fr 2;have Y:=ag Z y;have Ix:=hid (Iw.out.below y);have z:=hid (Iy.out.below y);have IF: ¬w.heap.size=w.heap.size+1:=by omega
 go_wp2_with fail;refine bodyPost_ret (v:= .agg #[.slice M J.base.length N,.int .i64 J.first,.slice ya J.cos.length yc]) (by simp[results,results99,go_sem,y0,y1,al]) rfl ⟨_,rfl,?_,?_⟩
 · have k0: ∀b,(Value.slice M J.base.length N).ownBlock=some b→b≠w.heap.size:=fun b hb=>by have:=(z.out b hb).1;omega
   have k1: ∀b,(Value.slice M J.base.length N).ownBlock=some b→b≠w.heap.size+1:=fun b hb=>by have:=(z.out b hb).1;omega
   refine⟨_,_,rfl,(((Ix.out.nbo (ar _ _ _ _) k0).nbo (ar _ _ _ _) k1).nbo (ar _ _ _ _) k1).nbo (ar _ _ _ _) k1,((((z.out.setCell _ _ _).setCell _ _ _).setCell _ _ _).setCell _ _ _).mono (by omega),?_⟩
   exact((((Iz.out.nbo (ar _ _ _ _) (by omega)).nbo (ar _ _ _ _) (by omega)).nbo (ar _ _ _ _) (by omega)).nbo (ar _ _ _ _) (by omega)).mono (by omega)
 · exact(((Y.setCell (p:=⟨w.heap.size,2,none⟩) (Nat.le_refl _) _).setCell (p:=⟨w.heap.size+1,0,none⟩) (Nat.le_succ _) _).setCell (p:=⟨w.heap.size+1,1,none⟩) (Nat.le_succ _) _).setCell (p:=⟨w.heap.size+1,2,none⟩) (Nat.le_succ _) _
end Go.Proofs.YtcmlnelpcjfocaaGreatDoor
