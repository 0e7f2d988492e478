/- What the law TreeGoes says, as plain mathematics. -/
import Derived.Test.YtgamnckfmmbjdaaGreatDoorWGM
import Derived.Test.YtgamnckfmmbjdaaGreatDoorWGN
set_option linter.unusedSimpArgs false
set_option linter.unusedVariables false
namespace Go.Proofs.YtgamnckfmmbjdaaGreatDoor
open Go.RowKit Go.Maps Go.WideMaps Go.Proofs.Tryz
set_option maxHeartbeats 4000000
set_option maxRecDepth 100000
theorem qK {R:List En} (d:Pp.Good R):cP R:=fun e f=>by
 have j:=js (fJ (d.ents e f));have a:=d.ents e f;refine⟨by rw[Lib.size_eq];omega,?_⟩
 rw[bi,if_pos (fJ a)]at a;split at a
 · cases a
 · split at a
   · cases a
   · omega
theorem qL (L:List En) (v:Value) (cs:List ar) (u:Value) (n:Int) (w:World) (hv:aj w v L) (hs:cP L) (hu:bk w u cs) (C3:iQ 150000000000000 cs):
    Calls prog 254 #[v,u,.int .i64 n] w fun e w'=> ∃r,e= .returned (.tuple #[r,.int .i64 (gW L cs n),.int .i64 (bJ L cs n)])∧aj w' r (cX L cs n)∧Below w.heap.size w w':=by
 have HV:=hid hv;have HS:=hid hs;have C6:=hid C3;obtain⟨a,CG,rfl,CD,C9,hC⟩:=hu
 have HC:Hid (∀i (h:i<cs.length),∃b o,a=some ⟨b,o,none⟩∧b<w.heap.size∧eJ w b (o+i*5) cs[i]):=hC;clear hv hs C3 hC;by_cases f:aA L=0
 · have HT:=hid f
   by_cases U:20<cs.length
   · obtain⟨ae,A,y⟩:=kY f U n
     rw[ae,A,y];clear ae A y f;have V:20<(cs.length:Int):=by omega
     go_enter func254,ntmps254
     go_wp2_with fail;refine(gT L v _ HV.out HS.out).mono ?_
     rintro e w1 ⟨rfl,d⟩;rw[HT.out];go_wp2_with fail;go_ret3;exact⟨_,rfl,iR _,d⟩
   · have V: ¬20<(cs.length:Int):=by omega
     have hg:=(gx L).1 f;have HG:=hid hg;have CE:=hg.len;have G:=hid (show∀k e R,cJ n L cs=(k,e,R)→bJ L cs n=e∧gW L cs n=k∧cX L cs n=R from fun k e R h=>mN f U h);clear hg f;go_enter func254,ntmps254
     go_wp2_with fail;refine(gT L v _ HV.out HS.out).mono ?_
     rintro e w1 ⟨rfl,d⟩;rw[HT.out];go_wp2_with fail;refine(kg L v _ _ (fun _=>true) _ (HV.out.below d) (vH _) (by omega) HS.out).mono ?_
     rintro e w2 ⟨u,rfl,P,CC,X⟩;rw[show L.filter (fun _=>true)=L by simp]at P;have HU:Hid (aj w2 u L):=iw P (by omega);have H:=d.trans (X.mono d.size);clear P CC d X;go_wp2_with fail;go_loopw [10,26] (fun x i wr=> ∃(k:Nat) (S:List En),k≤cs.length∧i= .int .i64 k∧Hid (aj wr x S)∧Hid (Pp.Good S)∧Hid (Pp.Left n L cs S k)∧Below w.heap.size w wr) (fun _ i _=>cs.length-(intOf i).toNat)
     case atStart=>exact⟨0,L,Nat.zero_le _,rfl,HU,HG,Pp.left_zero n L cs,H⟩
     case round=>
      obtain⟨k,S,hk,rfl,HX,J,K,z⟩:=hrel
      clear H;by_cases F:k<cs.length
      · obtain⟨b,o,rfl,hb,he⟩:=HC.out k F
        obtain⟨c0,c1,c2,c3,c4⟩:=he.below hb z
        have C5:=C6.out cs[k] (List.getElem_mem F);have HZ:=hid C5;have N:=hid (show bn S cs[k] n=0→Pp.Left n L cs (bN S cs[k] n) (k+1)from fun j=>Pp.left_next K.out F j);have O:=hid (show¬bn S cs[k] n=0→cJ n L cs=(k,bn S cs[k] n,[])from fun j=>pG K.out F j);have I:=hid (show bn S cs[k] n=0→Pp.Good (bN S cs[k] n)from fun j=>mJ J.out j);clear he C5;generalize cs[k]=ck at*;obtain⟨Q,p,q,t,dF⟩:=ck
        simp only at c0 c1 c2 c3 c4;go_wp2_with fail;refine(vZ S _ Q p q t dF n _ (HX.out.below ((Below.refl _ _).alloc (Nat.le_refl _) _)) (qK J.out) HZ.out.1 HZ.out.2.1 HZ.out.2.2 J.out).mono ?_
        rintro e w3 ⟨u3,rfl,C4,Y⟩;obtain⟨d0,d1,d2,d3,d4,Z,CF⟩:=ql Y
        have M:=hid C4;have E:=bj z Z;clear Y C4 d0 d1 d2 d3 d4 c0 c1 c2 c3 c4 z Z;by_cases j:bn S ⟨Q,p,q,t,dF⟩ n=0
        · have T:=hid (N.out j)
          have C7:=hid (I.out j);have y:ix S ⟨Q,p,q,t,dF⟩ n=bN S ⟨Q,p,q,t,dF⟩ n:=by rw[ix,kW j]
          have C8:=hid (show aj w3 u3 (bN S ⟨Q,p,q,t,dF⟩ n)from y▸M.out);rw[j];clear y j M N O I;go_wp2_with fail;go_roundw
          case rel=>exact⟨k+1,_,by omega,by simp,C8,C7,T,E⟩
          case measure=>simp[intOf];omega
        · obtain⟨ae,A,y⟩:=G.out _ _ _ (O.out j)
          have hz:(bn S ⟨Q,p,q,t,dF⟩ n==0)=false:=by simpa using j
          have HE:=hid ae;have T:=hid A;have HR:=hid y;clear ae A y j M N O I;go_wp2_with fail;go_ret3;exact⟨_,by rw[HE.out,T.out];rfl,by rw[HR.out];exact iR _,E⟩
      · obtain rfl:k=cs.length:=by omega
        obtain⟨ae,A,y⟩:=G.out _ _ _ (Pp.left_end K.out)
        have HE:=hid ae;have T:=hid A;have HR:=hid y;clear ae A y;go_wp2_with fail;go_ret3;exact⟨_,by rw[HE.out,T.out];rfl,by rw[HR.out];exact HX.out,z⟩
 · obtain⟨ae,A,y⟩:=mM f cs n
   rw[ae,A,y];have hz:(aA L==0)=false:=by simpa using f
   clear ae A y;go_enter func254,ntmps254
   go_wp2_with fail;refine(gT L v _ HV.out HS.out).mono ?_
   rintro e w1 ⟨rfl,d⟩;go_wp2_with fail;go_ret3;exact⟨_,rfl,iR _,d⟩
def Kp (w:World) (b mb:Nat) (vb:Value) (fi:Int) (vc:Value) (T:List En) (nn:Nat) (M:DataW Unit):Prop:=
 ∃vt,Cs w b [vb,.int .i64 fi,vc,vt,.map (some mb)]∧aj w vt T∧w.ownsMap prog 9 (plainElem prog 3) mb nn M∧b≠mb
theorem Kp.below {w w':World} {b e:Nat} {j:Value} {d:Int} {o:Value} {T:List En} {f:Nat} {M:DataW Unit} (h:Kp w b e j d o T f M) (a:Below w.heap.size w w'):Kp w' b e j d o T f M:=by
 obtain⟨F,u,y,z,A⟩:=h
 exact⟨F,u.below a,y.below a,z.kept (row:=none) ⟨a.os,a.tape,a.output,a.size,fun k E _=>a.block k E⟩ (by simp),A⟩
theorem we (c:Co) (u:Value) (b z nn:Nat) (S U:Value) (fi:Int) (T:List En) (M:DataW Unit) (w:World) (hu:bk w u c.ch) (C5:iQ 150000000000000 c.ch) (CG:c.ke.size≤maxLen) (CI:(Lit.int .i64 c.nu).wf=true)
    (hk:Kp w b z S fi U T nn M) (hs:cP T) (CH:nn<maxLen) (CK: ∀s,S≠ .string s) (CL: ∀s,U≠ .string s):
    Calls prog 203 #[.pointer (some ⟨b,0,none⟩),.agg #[.int .i64 c.nu,.string c.ke,u]] w fun e w'=>e= .returned (.int .i64 (bJ T c.ch c.nu))∧dc w w' b z∧
     (bJ T c.ch c.nu=0→Kp w' b z S fi U (cX T c.ch c.nu) (nn+1) (M.put (Jn.key c.ke) (Jn.num c.nu))):=by
 obtain⟨V,H,Q,hm,P⟩:=hk
 have C6:=hid H;have HT:=hid Q;have HU:=hid hu;have HS:=hid hs;have Z:=hid C5;have HM:=hid hm;have N:=H.lt;have CO:=hm.lt
 have CM: ∀s,Value.string s∉[S,.int .i64 fi,U,V,.map (some z)]:=by
  obtain⟨_,_,rfl,_⟩:=Q
  intro s hs;simp only[List.mem_cons,List.not_mem_nil,or_false]at hs;rcases hs with h|h|h|h|h
  · exact CK s h.symm
  · cases h
  · exact CL s h.symm
  · cases h
  · cases h
 obtain⟨A,j⟩: ∃A,A=w.alloc (.cells #[.int .i64 c.nu,.string c.ke,u] 111):=⟨_,rfl⟩
 have o:Below w.heap.size w A:=by rw[j];exact(Below.refl _ _).alloc (Nat.le_refl _) _
 have z0:A.cell? ⟨w.heap.size,0,none⟩=some (.int .i64 c.nu):=by rw[j];simp
 have z1:A.cell? ⟨w.heap.size,1,none⟩=some (.string c.ke):=by rw[j];simp
 have z2:A.cell? ⟨w.heap.size,2,none⟩=some u:=by rw[j];simp
 have a:w.heap.size<A.heap.size:=by rw[j];simp
 have z3:A.cell? ⟨b,3,none⟩=some V:=(o.cell (p:=⟨b,3,none⟩) N).trans (H.cell 3 rfl);clear H Q hu hs C5 hm;by_cases h0:bJ T c.ch c.nu=0
 · have H0:=hid h0
   go_enter func203,ntmps203
   go_wp2_with fail;rw[←j];clear j
   go_region_held3 (fun W=>W.cell? ⟨w.heap.size,0,none⟩=some (.int .i64 c.nu)∧W.cell? ⟨w.heap.size,2,none⟩=some u∧W.cell? ⟨b,3,none⟩=some V) (go_keep) (first
    |(go_at_call 254;refine(qL T V c.ch u c.nu _ (HT.out.below (af o (Below.refl _ _).drew)) HS.out (HU.out.below (af o (Below.refl _ _).drew)) Z.out).mono ?_;rintro e X ⟨r,rfl,O,K⟩;rw[H0.out];have d:Below A.heap.size A X:=((Below.refl _ _).drew).trans K;have j0:=(d.cell (p:=⟨w.heap.size,0,none⟩) a).trans z0;have j2:=(d.cell (p:=⟨w.heap.size,2,none⟩) a).trans z2;have j3:=(d.cell (p:=⟨b,3,none⟩) (Nat.lt_trans N a)).trans z3))
   have C8:=hid O;obtain⟨ra,G,rfl,_,_,_⟩:=O
   have y:=af o d;have J:=hid (C6.out.below y);have CQ:=J.out.fr 3;have CC:Hid (cy X b):=J.out.noStr CM;obtain⟨I,f⟩: ∃I,I=X.setCell ⟨b,3,none⟩ (.slice ra (cX T c.ch c.nu).length G):=⟨_,rfl⟩
   have Y:=hid (show Cs I b [S,.int .i64 fi,U,.slice ra (cX T c.ch c.nu).length G,.map (some z)]from by rw[f];exact J.out.set 3 _);have q4:=Y.out.cell 4 rfl;have CP:=d.size;have bD:I.cell? ⟨w.heap.size,0,none⟩=some (.int .i64 c.nu):=by rw[f,World.cell?_setCell_other (h:=fun e=>by injection e with ay e2;omega)];exact j0
   have q1:I.cell? ⟨w.heap.size,1,none⟩=some (.string c.ke):=by rw[f,World.cell?_setCell_other (h:=fun e=>by injection e with ay e2;omega)];exact(d.cell (p:=⟨w.heap.size,1,none⟩) a).trans z1
   have C3:=hid (show I.ownsMap prog 9 (plainElem prog 3) z nn M from by rw[f];exact(HM.out.kept (row:=none) ⟨y.os,y.tape,y.output,y.size,fun k hk _=>y.block k hk⟩ (by simp)).setCell (fun e=>P e.symm) _);obtain⟨w6,CJ,F,E⟩:=C3.out.drew.update (string_keyed underlying9) underlying156 CH (keyOf_string_mk underlying9 CG) (plainElem_int underlying3 CI)
   have CD:=hid F;clear F;go_wp2_with fail;have CF:dc w I b z:=by rw[f];exact(dc.of_below b z y).trans (dc.of_left z (au _ _ _ _))
   have CN:w.heap.size<I.heap.size:=by rw[f];simp;omega
   have C9:=hid (show aj I (.slice ra (cX T c.ch c.nu).length G) (cX T c.ch c.nu)from by rw[f];exact C8.out.nb (au X b 3 _) CC.out);rw[←f];clear f;go_region
   have CE:dc w w6 b z:=(CF.trans (dc.of_below b z (Below.refl _ _).drew)).trans (dc.of_right b E);have C4:Kp w6 b z S fi U (cX T c.ch c.nu) (nn+1) (M.put (Jn.key c.ke) (Jn.num c.nu)):=⟨_,(Y.out.below (Below.refl _ _).drew).nb E P,(C9.out.below (Below.refl _ _).drew).nb E (mL C3.out.drew),CD.out,P⟩
   have C7:=hid C4;clear C4;go_wp2_with fail;go_ret;exact⟨by rw[H0.out];rfl,CE,fun _=>C7.out⟩
 · have hz:(bJ T c.ch c.nu==0)=false:=by simpa using h0
   go_enter func203,ntmps203
   go_wp2_with fail;rw[←j];clear j
   go_region_held3 (fun W=>W.cell? ⟨w.heap.size,0,none⟩=some (.int .i64 c.nu)∧W.cell? ⟨w.heap.size,2,none⟩=some u∧W.cell? ⟨b,3,none⟩=some V) (go_keep) (first
    |(go_at_call 254;refine(qL T V c.ch u c.nu _ (HT.out.below (af o (Below.refl _ _).drew)) HS.out (HU.out.below (af o (Below.refl _ _).drew)) Z.out).mono ?_;rintro e X ⟨r,rfl,O,K⟩;have d:Below A.heap.size A X:=((Below.refl _ _).drew).trans K;have j0:=(d.cell (p:=⟨w.heap.size,0,none⟩) a).trans z0;have j2:=(d.cell (p:=⟨w.heap.size,2,none⟩) a).trans z2;have j3:=(d.cell (p:=⟨b,3,none⟩) (Nat.lt_trans N a)).trans z3))
   go_wp2_with fail;go_ret;exact⟨rfl,dc.of_below b z (af o d),fun h=>absurd h h0⟩
def kn (w:World) (p:Value) (B:Nat) (v:Value) (J:Jo):Prop:= ∃b mb vb vc nn,p= .pointer (some ⟨b,0,none⟩)∧v= .agg #[vb,.int .i64 J.first,vc]∧B≤b∧B≤mb∧Kp w b mb vb J.first vc (Jn.tree J) nn (Jn.D J.cos)∧nn≤30
theorem kn.below {w w':World} {p:Value} {B:Nat} {v:Value} {J:Jo} (h:kn w p B v J) (u:Below w.heap.size w w'):kn w' p B v J:=by
 obtain⟨b,y,A,E,z,a,d,e,f,j,o⟩:=h
 exact⟨b,y,A,E,z,a,d,e,f,j.below u,o⟩
theorem qM {a:Option Addr} {n c:Nat} (s:ByteArray):Value.slice a n c≠ .string s:=fun h=>by cases h
theorem wj {c:Co} {n:Int} (h:bW c n=0):c.nu=n∧n≤1000000∧bV c.ke.data.toList=true∧0<c.ch.length:=by
 rcases nK c n with⟨_,ae⟩|⟨_,_,ae⟩|⟨_,_,_,ae⟩|⟨_,_,_,_,ae⟩|⟨d,f,a,e,_⟩
 · rw[ae]at h;cases h
 · rw[ae]at h;cases h
 · rw[ae]at h;cases h
 · rw[ae]at h;cases h
 · refine⟨d,by omega,?_,e⟩
   cases hb:bV c.ke.data.toList with
   |true=>rfl
   |false=>rw[iq hb]at a;cases a
theorem qN {n:Int} (d: -9223372036854775808≤n) (e:n≤9223372036854775807):(Lit.int .i64 n).wf=true:=by
 have ay:IntKind.i64.min= -9223372036854775808:=by decide
 have a:IntKind.i64.max=9223372036854775807:=by decide
 simp only[Lit.wf,ay,a,Bool.and_eq_true,decide_eq_true_eq];exact⟨d,e⟩
theorem Tryz.makeNumbers (w:World):(Instr.makeMap 156 none).run prog w= .ok (.map (some w.heap.size)) (w.alloc (.map #[] 0)):=by
 simp[Instr.makeMap,run_underlying underlying156,Result.andThen]
theorem wm (J:Jo) (v:Value) (w:World) (hv:fV w v J) (hs:cP J.base) (CO:dR 150000000000000 J.cos):
    Calls prog 155 #[v] w fun e w'=> ∃p,e= .returned (.tuple #[p,.int .i64 (bo J)])∧(bo J=0→kn w' p w.heap.size v J)∧(¬bo J=0→p= .pointer none)∧Below w.heap.size w w':=by
 obtain⟨vb,vc,rfl,CT,CU⟩:=hv
 have Dr:=Tryz.makeNumbers;have Y:=hid CT;have Dp:=hid CU;have HS:=hid hs;have CY:=hid CO;obtain⟨cb,d,rfl,Dj,CX,hC⟩:=CU
 obtain⟨K,a,rfl,Di,CW,_⟩:=CT
 have HC:Hid (∀i (h:i<J.cos.length),∃b o,cb=some ⟨b,o,none⟩∧b<w.heap.size∧fB w b (o+i*3) J.cos[i]):=hC;clear hC hs CO;obtain⟨wz,j⟩: ∃wz,wz=((w.alloc (.cells #[.slice K J.base.length a,.int .i64 J.first,.slice cb J.cos.length d] 90)).alloc (.map #[] 0)).alloc (.cells #[.slice K J.base.length a,.int .i64 J.first,.slice cb J.cos.length d,.slice K J.base.length a,.map (some (w.heap.size+1))] 226):=⟨_,rfl⟩
 have A:Below w.heap.size w wz:=by rw[j];exact(((Below.refl _ _).alloc (Nat.le_refl _) _).alloc (by simp) _).alloc (by simp;omega) _
 have CI:w.heap.size+1+1<wz.heap.size:=by rw[j];simp
 have CC:=hid (show Kp wz (w.heap.size+1+1) (w.heap.size+1) (.slice K J.base.length a) J.first (.slice cb J.cos.length d) J.base 0 (.map [])from by
  refine⟨.slice K J.base.length a,?_,Y.out.below A,?_,by omega⟩
  · have:=Cs.new ((w.alloc (.cells #[.slice K J.base.length a,.int .i64 J.first,.slice cb J.cos.length d] 90)).alloc (.map #[] 0)) [.slice K J.base.length a,.int .i64 J.first,.slice cb J.cos.length d,.slice K J.base.length a,.map (some (w.heap.size+1))] 226
    rw[j];simpa using this
  · have:=(World.ownsMap_made (w.alloc (.cells #[.slice K J.base.length a,.int .i64 J.first,.slice cb J.cos.length d] 90)) prog 9 (plainElem (H:=Unit) prog 3)).alloc (.cells #[.slice K J.base.length a,.int .i64 J.first,.slice cb J.cos.length d,.slice K J.base.length a,.map (some (w.heap.size+1))] 226)
    rw[j];simpa using this)
 by_cases S:aA J.base=0
 · have HT:=hid S
   by_cases hf:aM J.first=0
   · have CP:=nA.1 hf
     by_cases hm:30<J.cos.length
     · have z:=hid (nE S hf hm)
       have Dk:30<(J.cos.length:Int):=by omega
       obtain⟨f1,f2⟩:=CP
       clear S hf;go_enter func155,ntmps155
       go_wp2_with fail;rw[←j];clear j;refine(gT J.base _ _ (Y.out.below A) HS.out).mono ?_
       rintro e w1 ⟨rfl,f⟩;rw[HT.out];obtain⟨CV,y,_⟩:=CC.out.below f
       have c1:=y.cell 1 rfl;have c2:=y.cell 2 rfl;clear y;go_wp2_with fail;go_ret2;exact⟨_,by rw[z.out];rfl,(fun h=>by rw[z.out]at h;exact absurd h (by decide)),fun _=>rfl,af A f⟩
     · have Dk: ¬30<(J.cos.length:Int):=by omega
       obtain⟨f1,f2⟩:=CP
       have HG:=hid ((gx J.base).1 S);have C7:=hid (show∀e T,cz J.first J.base J.cos=(e,T)→ ¬e=0→bo J=e from fun e T h he=>nF S hf hm h he);have Df:=hid (show∀T,cz J.first J.base J.cos=(0,T)→ ¬cY J.cos→bo J=6 from fun T h ha=>nG S hf hm h ha);have Dd:=hid (show∀T,cz J.first J.base J.cos=(0,T)→cY J.cos→bo J=0∧Jn.tree J=T from fun T h ha=>⟨qs S hf hm h ha,qt h⟩);clear S hf;go_enter func155,ntmps155
       go_wp2_with fail;rw[←j];clear j;refine(gT J.base _ _ (Y.out.below A) HS.out).mono ?_
       rintro e w1 ⟨rfl,f⟩;rw[HT.out];have CJ:=hid (CC.out.below f);obtain⟨CV,y,_⟩:=CJ.out
       have c1:=y.cell 1 rfl;have c2:=y.cell 2 rfl;clear y;have C8:=af A f;have C9:w.heap.size+1+1<w1.heap.size:=Nat.lt_of_lt_of_le CI f.size;clear f;go_wp2_with fail;go_loopw [52] (fun i wr=> ∃k:Nat,k≤J.cos.length∧i= .int .i64 k∧Hid (Kp wr (w.heap.size+1+1) (w.heap.size+1) (.slice K J.base.length a) J.first (.slice cb J.cos.length d) (bp J k) k (Jn.D (J.cos.take k)))∧Hid (ew J (bp J k) k)∧Hid (Pp.Good (bp J k))∧Below w.heap.size w wr∧w.heap.size+1+1<wr.heap.size) (fun i _=>J.cos.length-(intOf i).toNat)
       case atStart=>exact⟨0,Nat.zero_le _,rfl,by rw[iV,List.take_zero];exact CJ,by rw[iV];exact Jn.left_zero J,by rw[iV];exact HG,C8,C9⟩
       case round=>
        obtain⟨k,hk,rfl,HK,HL,D3,N,CS⟩:=hrel
        clear C8 C9 c1 c2;by_cases E:k<J.cos.length
        · obtain⟨b,o,rfl,hb,he⟩:=HC.out k E
          obtain⟨c0,c1,u,c2,hu⟩:=he.below hb N
          have HZ:=hid (CY.out J.cos[k] (List.getElem_mem E));have V:=hid (show¬bW J.cos[k] (J.first+k)=0→bo J=bW J.cos[k] (J.first+k)from fun G=>C7.out _ _ (qq HL.out E G) G);have U:=hid (show bW J.cos[k] (J.first+k)=0→ ¬bJ (bp J k) J.cos[k].ch J.cos[k].nu=0→bo J=bJ (bp J k) J.cos[k].ch J.cos[k].nu from fun G M=>C7.out _ _ (qr HL.out E G M) M);have CE:=hid (show bW J.cos[k] (J.first+k)=0→bJ (bp J k) J.cos[k].ch J.cos[k].nu=0→ew J (bp J (k+1)) (k+1)from fun G M=>by rw[lq E];exact Jn.left_next HL.out E G M);have X:Hid (bp J (k+1)=cX (bp J k) J.cos[k].ch J.cos[k].nu):=lq E;have HD:Hid (Jn.D (J.cos.take (k+1))=(Jn.D (J.cos.take k)).put (Jn.key J.cos[k].ke) (Jn.num J.cos[k].nu)):=qw E;clear he;generalize J.cos[k]=ck at*;obtain⟨nu,ke,ch⟩:=ck
          simp only at c0 c1 c2 hu;have CK:=hid (show ke.size≤maxLen from by have:ke.size≤150000000000000:=HZ.out.1;unfold maxLen;omega);have HU:=hid hu;obtain⟨ua,P,rfl,_,_,_⟩:=hu
          obtain⟨wy,I⟩: ∃wy,wy=wr.alloc (.cells #[.int .i64 nu,.string ke,.slice ua ch.length P] 111):=⟨_,rfl⟩
          have C5:Below wr.heap.size wr wy:=by rw[I];exact(Below.refl _ _).alloc (Nat.le_refl _) _
          have y0:wy.cell? ⟨wr.heap.size,0,none⟩=some (.int .i64 nu):=by rw[I];simp
          have y1:wy.cell? ⟨wr.heap.size,1,none⟩=some (.string ke):=by rw[I];simp
          have y2:wy.cell? ⟨wr.heap.size,2,none⟩=some (.slice ua ch.length P):=by rw[I];simp
          have O:wr.heap.size<wy.heap.size:=by rw[I];simp
          have CL:=hid (HK.out.below C5);obtain⟨vt,hB,_⟩:=CL.out
          have y3:=hB.cell 1 rfl;clear hB;have Dl:IntKind.i64.wrap (J.first+(k:Int))=J.first+k:=by rw[IntKind.wrap_i64];omega
          go_wp2_with fail;rw[←I];clear I c0 c1 c2
          go_region_held3 (fun W=>W.cell? ⟨wr.heap.size,0,none⟩=some (.int .i64 nu)∧W.cell? ⟨wr.heap.size,1,none⟩=some (.string ke)∧W.cell? ⟨wr.heap.size,2,none⟩=some (.slice ua ch.length P)∧W.cell? ⟨w.heap.size+1+1,1,none⟩=some (.int .i64 J.first)) (go_keep) (first
           |(go_at_call 202;refine(vL ⟨nu,ke,ch⟩ _ (J.first+k) _ (HU.out.below (af C5 (Below.refl _ _).drew)) CK.out).mono ?_;rintro e wa ⟨rfl,Dh⟩;have F:Below wy.heap.size wy wa:=((Below.refl _ _).drew).trans Dh;have j0:=(F.cell (p:=⟨wr.heap.size,0,none⟩) O).trans y0;have j1:=(F.cell (p:=⟨wr.heap.size,1,none⟩) O).trans y1;have j2:=(F.cell (p:=⟨wr.heap.size,2,none⟩) O).trans y2;have j3:=(F.cell (p:=⟨w.heap.size+1+1,1,none⟩) (Nat.lt_trans CS O)).trans y3))
          have C3:=af N (af C5 F);have D7:=hid (CL.out.below F);have Dg:=hid (HU.out.below (af C5 F));have Do:=F.size;by_cases G:bW ⟨nu,ke,ch⟩ (J.first+k)=0
          · obtain⟨n1,n2,_,_⟩:=wj G
            have CR:(Lit.int .i64 nu).wf=true:=qN (by simp only at n1;omega) (by simp only at n1;omega);have Dc:=hid CR;clear n1 n2 CR;have HA:=hid (U.out G);have HN:=hid (CE.out G);have De:=hid (qK D3.out);have Da:=hid (show k<maxLen from by unfold maxLen;omega);have D4:=hid (show w.heap.size≤w.heap.size+1+1 from by omega);have D5:=hid (show w.heap.size≤w.heap.size+1 from by omega);rw[G];clear G V U CE;go_wp2_with fail;refine(we ⟨nu,ke,ch⟩ (.slice ua ch.length P) (w.heap.size+1+1) (w.heap.size+1) k (.slice K J.base.length a) (.slice (some ⟨b,o,none⟩) J.cos.length d) J.first (bp J k) (Jn.D (J.cos.take k)) wa Dg.out HZ.out.2 CK.out Dc.out D7.out De.out Da.out qM qM).mono ?_
            rintro e w4 ⟨rfl,CQ,CM⟩;have CF:Below w.heap.size wa w4:=CQ.to (by omega) D4.out D5.out;clear CQ;have CD:=hid CM;have Z:=C3.trans CF;have Dn:=CF.size;clear CM CF;by_cases M:bJ (bp J k) ch nu=0
            · have C4:=CD.out M
              simp only at C4;rw[←X.out,←HD.out]at C4;have D6:=hid C4;have Db:=hid (HN.out M);have CZ:=hid (show Pp.Good (bp J (k+1))from by rw[X.out];exact qv M);rw[M];clear M C4 CD HA HN X HD;go_wp2_with fail;go_roundw
              case rel=>exact⟨k+1,by omega,by simp,D6,Db,CZ,Z,by omega⟩
              case measure=>simp[intOf];omega
            · have z:=hid (HA.out M)
              have H1:=hid M;have hz:(bJ (bp J k) ch nu==0)=false:=by simpa using M
              clear M CD HA HN X HD;go_wp2_with fail;go_ret2;exact⟨_,by rw[z.out];rfl,fun h=>absurd (z.out▸h) H1.out,fun _=>rfl,Z⟩
          · have z:=hid (V.out G)
            have hz:(bW ⟨nu,ke,ch⟩ (J.first+k)==0)=false:=by simpa using G
            have H0:=hid G;clear G V U CE X HD;go_wp2_with fail;go_ret2;exact⟨_,by rw[z.out];rfl,fun h=>absurd (z.out▸h) H0.out,fun _=>rfl,C3⟩
        · obtain rfl:k=J.cos.length:=by omega
          rw[List.take_length]at HK;have hr:=Jn.left_end HL.out;obtain⟨vt,hB,CN,hM,Ds⟩:=HK.out
          have c2:=hB.cell 2 rfl;have c4:=hB.cell 4 rfl;have Dm:=fun ty=>hM.drew.len underlying156 ty
          have C6:=vF J.cos;by_cases Q:cY J.cos
          · have CI:(Maps.size (Jn.D J.cos):Int)=J.cos.length:=by rw[C6.2.2 Q]
            obtain⟨ae,hT⟩:=Dd.out _ hr Q
            have z:=hid ae;have D9:=hid (show kn wr (.pointer (some ⟨w.heap.size+1+1,0,none⟩)) w.heap.size (.agg #[.slice K J.base.length a,.int .i64 J.first,.slice cb J.cos.length d]) J from⟨w.heap.size+1+1,w.heap.size+1,_,_,J.cos.length,rfl,rfl,by omega,by omega,by rw[hT];exact HK.out,by omega⟩);clear ae hT hr hB CN hM C6 Q;go_wp2_with fail;go_region
            have D8:=hid (D9.out.below (Below.refl _ _).drew);have CG:=af N (Below.refl _ _).drew;go_wp2_with fail;go_ret2;exact⟨_,by rw[z.out];rfl,fun _=>D8.out,fun h=>absurd z.out h,CG⟩
          · have CI:(Maps.size (Jn.D J.cos):Int)<J.cos.length:=by
             rcases Nat.lt_or_ge (Maps.size (Jn.D J.cos)) J.cos.length with h|h
             · omega
             · exact absurd (C6.2.1 (by omega)) Q
            have z:=hid (Df.out _ hr Q);clear hr hB CN hM C6 Q;have CG:=af N (Below.refl _ _).drew;go_wp2_with fail;go_region
            go_wp2_with fail;go_ret2;exact⟨_,by rw[z.out];rfl,(fun h=>by rw[z.out]at h;exact absurd h (by decide)),fun _=>rfl,CG⟩
   · have z:=hid (nD S hf)
     have CH:J.first<1∨1000000<J.first:=by
      rcases Int.lt_or_le J.first 1 with h|h
      · exact Or.inl h
      · rcases Int.lt_or_le 1000000 J.first with h2|h2
        · exact Or.inr h2
        · exact absurd (nA.2 ⟨h,h2⟩) hf
     clear S hf;rcases CH with CH|CH
     all_goals
      try (have Dq: ¬J.first<1:=by omega)
      go_enter func155,ntmps155
      go_wp2_with fail;rw[←j];clear j;refine(gT J.base _ _ (Y.out.below A) HS.out).mono ?_
      rintro e w1 ⟨rfl,f⟩;rw[HT.out];obtain⟨CV,y,_⟩:=CC.out.below f
      have c1:=y.cell 1 rfl;clear y;go_wp2_with fail;go_ret2;exact⟨_,by rw[z.out];rfl,(fun h=>by rw[z.out]at h;exact absurd h (by decide)),fun _=>rfl,af A f⟩
 · have Dt:(aA J.base==0)=false:=by simpa using S
   have z:=hid (nB S);have HN:=hid S;go_enter func155,ntmps155
   go_wp2_with fail;rw[←j];clear j;refine(gT J.base _ _ (Y.out.below A) HS.out).mono ?_
   rintro e w1 ⟨rfl,f⟩;go_wp2_with fail;go_ret2;exact⟨_,by rw[z.out];rfl,fun h=>absurd (z.out▸h) HN.out,fun _=>rfl,af A f⟩
theorem Tryz.infoRO:(prog.info? 111).map (fun i=>(i.zero,i.size,i.bytes))=some (some (.agg #[.int .i64 0,.string ⟨#[]⟩,.slice none 0 0]),3,48):=by kernel_rfl
theorem wu (R:List (List Value)) (v:Value) (w:World) (hv:aJ 3 w v R) (hn:R.length≤1000000000000):
    Calls prog 185 #[v] w fun e w'=> ∃u,e= .returned u∧aJ 3 w' u R∧aw w.heap.size w' u∧Below w.heap.size w w':=by
 obtain⟨aQ,Q,U,V,X⟩:=info_parts Tryz.infoRO
 obtain⟨a,O,rfl,C3,P,G,f⟩:=hv
 have M:=hid G;have C5: ∀(w:World) (a:Option Addr) (n c Y N:Nat),(binOp .eql 67 (.slice a n c) (.slice none Y N)).run prog w= .ok (.bool a.isNone) w:=fun w a n c Y N=>Lib.run_eql_slice_nil w _ _ a n c Y N underlying67
 cases a with
 |none=>
  have hL:R=[]:=by
   cases R with
   |nil=>rfl
   |cons s r=>obtain⟨b,o,hb,_⟩:=f 0 (by simp);cases hb
  subst hL;clear G;go_enter func185,ntmps185
  go_wp2;go_ret;exact⟨_,rfl,⟨none,0,rfl,Nat.le_refl _,by simp,M.out,fun i h=>absurd h (by simp)⟩,eX _ _,Below.refl _ _⟩
 |some ad=>
  have d: ∀j u,R.flatten[j]?=some u→w.cell? (ad.add j)=some u:=by
   cases R with
   |nil=>intro j u S;simp at S
   |cons s r=>
    obtain⟨b,o,hb,_⟩:=f 0 (by simp)
    injection hb with hb
    subst hb
    exact gX (by decide) (fun r T=>(G r T).1) fun i hi=>by
     obtain⟨b',o',z,_,he⟩:=f i hi
     injection z with z
     injection z with h1 h2
     subst h1;subst h2;exact he
  have HC:=hid d;have J:=hid (fy (fun r T=>(G r T).1):R.flatten.length=R.length*3);clear d f G;go_enter func185,ntmps185
  go_wp2_with (at_builtin;refine wpList_append_own _ rfl _ _ 67 rfl w.heap.size 111 aQ (.agg #[.int .i64 0,.string ⟨#[]⟩,.slice none 0 0]) 3 48 underlying67 Q U V X rfl (by decide) _ _ _ rfl (World.ownsRow_made w #[] 0 (Nat.le_refl _) (Nat.zero_le _) (by simp)) ad R.length O R.flatten rfl ?qc1 ?qc2 ?qc3 ?qc4 ?qc5 ?qc6 ?_)
  case qc1=>exact J.out
  case qc2=>intro j u S;exact Lib.cell?_alloc_some _ (HC.out j u S)
  case qc3=>exact iv M.out
  case qc4=>unfold maxLen;omega
  case qc5=>omega
  case qc6=>simp
  intro v2 w2 I y H;have A:Below w.heap.size w w2:=((Below.refl _ _).alloc (Nat.le_refl _) _).grown y (by simp) (fun k hk=>by simp[Value.ownBlock]at hk;omega);have E:w2.ownsRow w.heap.size 111 3 v2 R.length R.flatten:=by simpa using I
  have F:=hid (gY E (by omega) M.out);have K:=hid (fO E);obtain⟨a2,Z,C4,_,_,_⟩:=F.out
  clear I E y H;go_wp2_with fail;go_ret;exact⟨_,rfl,F.out,K.out,A⟩
def fC (c:Co) (u:Value):List Value:=[.int .i64 c.nu,.string c.ke,u]
def cQ (l:List Co) (us:List Value):List (List Value):=List.zipWith fC l us
theorem fW {l:List Co} {us:List Value} (h:us.length=l.length):(cQ l us).length=l.length:=by simp[cQ,h]
theorem ly {l:List Co} {us:List Value} (h:us.length=l.length) {i:Nat} (a:i<l.length):(cQ l us)[i]?=some (fC l[i] (us[i]'(by omega))):=by
 rw[cQ,List.getElem?_zipWith,List.getElem?_eq_getElem a,List.getElem?_eq_getElem (by omega)]
theorem ww {l:List Co} {us:List Value} (h:us.length=l.length) {i:Nat} (a:i<l.length) (u:Value):(cQ l us).set i (fC l[i] u)=cQ l (us.set i u):=by
 apply List.ext_getElem?
 intro j;rw[List.getElem?_set,cQ,cQ,List.getElem?_zipWith,List.getElem?_zipWith,List.getElem?_set];by_cases d:i=j
 · subst d
   have e:i<(List.zipWith fC l us).length:=by simp[h];omega
   simp[h,a,List.getElem?_eq_getElem a,show i<us.length by omega]
 · simp[d]
def iy (w:World) (l:List Co) (us:List Value):Prop:=us.length=l.length∧ ∀(i:Nat) (c:Co) (u:Value),l[i]?=some c→us[i]?=some u→bk w u c.ch
theorem wA {w:World} {v:Value} {l:List Co} (h:dd w v l): ∃J,iy w l J∧aJ 3 w v (cQ l J):=by
 obtain⟨a,H,Q,K,M,N⟩:=h
 have f: ∀i:Fin l.length,∃u,bk w u l[i].ch∧ ∃b o,a=some ⟨b,o,none⟩∧b<w.heap.size∧w.cell? ⟨b,o+i*3,none⟩=some (.int .i64 l[i].nu)∧w.cell? ⟨b,o+i*3+1,none⟩=some (.string l[i].ke)∧w.cell? ⟨b,o+i*3+2,none⟩=some u:=fun i=>by
  obtain⟨b,o,I,hb,E,F,u,G,e⟩:=N i i.2
  exact⟨u,e,b,o,I,hb,E,F,G⟩
 have d:(List.ofFn fun i:Fin l.length=>Classical.choose (f i)).length=l.length:=by simp
 refine⟨List.ofFn (fun i:Fin l.length=>Classical.choose (f i)),⟨d,?_⟩,a,H,by rw[fW d];exact Q,by rw[fW d];exact K,by rw[fW d];exact M,?_,?_⟩
 · intro i c u z e
   have j:i<l.length:=(List.getElem?_eq_some_iff.1 z).1;rw[List.getElem?_eq_getElem j]at z;injection z with z
   rw[List.getElem?_eq_getElem (by simpa using j),List.getElem_ofFn]at e;injection e with e
   rw[←z,←e];exact(Classical.choose_spec (f ⟨i,j⟩)).1
 · intro r O
   obtain⟨i,j⟩:=List.getElem?_of_mem O
   have y:i<l.length:=by
    have:=(List.getElem?_eq_some_iff.1 j).1
    rw[fW d]at this;exact this
   rw[ly d y]at j;injection j with j
   rw[←j];refine⟨rfl,fun u e=>?_⟩
   simp only[fC,List.mem_cons,List.not_mem_nil,or_false]at e;rcases e with rfl|rfl|rfl
   · rfl
   · rfl
   · rw[List.getElem_ofFn]
     obtain⟨_,_,P,_⟩:=(Classical.choose_spec (f ⟨i,y⟩)).1
     rw[P];rfl
 · intro i j
   have y:i<l.length:=by rw[fW d]at j;exact j
   obtain⟨b,o,I,hb,E,F,G⟩:=(Classical.choose_spec (f ⟨i,y⟩)).2
   refine⟨b,o,I,hb,fun c u e=>?_⟩
   have A:(cQ l (List.ofFn fun i:Fin l.length=>Classical.choose (f i)))[i]?=some (fC l[i] (Classical.choose (f ⟨i,y⟩))):=by rw[ly d y,List.getElem_ofFn]
   rw[List.getElem?_eq_getElem j]at A;injection A with A
   rw[A]at e;match c,e with
   |0,e=>simp[fC]at e;subst e;exact E
   |1,e=>simp[fC]at e;subst e;exact F
   |2,e=>simp[fC]at e;subst e;exact G
   |c+3,e=>simp[fC]at e
theorem qO {w:World} {v:Value} {l:List Co} {us:List Value} (I:iy w l us) (h:aJ 3 w v (cQ l us)):dd w v l:=by
 obtain⟨d,y⟩:=I
 obtain⟨a,u,F,A,E,_,G⟩:=h
 rw[fW d]at F A E;refine⟨a,u,F,A,E,fun i z=>?_⟩
 have e:i<(cQ l us).length:=by rw[fW d];exact z
 obtain⟨b,o,H,hb,f⟩:=G i e
 have j:=ly d z;rw[List.getElem?_eq_getElem e]at j;injection j with j
 rw[j]at f;exact⟨b,o,H,hb,f 0 _ rfl,f 1 _ rfl,us[i]'(by omega),f 2 _ rfl,y i _ _ (List.getElem?_eq_getElem z) (List.getElem?_eq_getElem (by omega))⟩
def cT (B:Nat) (w:World) (v:Value) (l:List Co):Prop:= ∃us,iy w l us∧aJ 3 w v (cQ l us)∧aw B w v∧ ∀u∈us,aw B w u
theorem cT.lies {B:Nat} {w:World} {v:Value} {l:List Co} (h:cT B w v l):dd w v l:=by
 obtain⟨e,a,d,_⟩:=h
 exact qO a d
theorem iy.below {w w':World} {l:List Co} {us:List Value} (h:iy w l us) (e:Below w.heap.size w w'):iy w' l us:=⟨h.1,fun i c u a d=>(h.2 i c u a d).below e⟩
theorem cT.below {B:Nat} {w w':World} {v:Value} {l:List Co} (h:cT B w v l) (a:Below w.heap.size w w'):cT B w' v l:=by
 obtain⟨y,d,e,f,j⟩:=h
 exact⟨y,d.below a,e.below a,f.below a,fun u o=>(j u o).below a⟩
theorem cT.mono {B a:Nat} {w:World} {v:Value} {l:List Co} (h:cT B w v l) (d:a≤B):cT a w v l:=by
 obtain⟨z,e,f,j,o⟩:=h
 exact⟨z,e,f,j.mono d,fun u y=>(o u y).mono d⟩
theorem aJ.set {n:Nat} {w:World} {a:Option Addr} {k cap b o:Nat} {R:List (List Value)} (h:aJ n w (.slice a k cap) R) (P:a=some ⟨b,o,none⟩) {i c:Nat} (S:i<R.length) (Q:c<n) (u:Value) (Z:u.oneCell'=true):
    aJ n (w.setCell ⟨b,o+i*n+c,none⟩ u) (.slice a k cap) (R.set i (R[i].set c u)):=by
 obtain⟨a',O,hv,U,V,H,X⟩:=h
 injection hv with ay A T
 subst ay;subst A;subst T;refine⟨a,cap,by simp,by simpa using U,by simpa using V,?_,fun j Y=>?_⟩
 · intro r N
   rcases List.mem_or_eq_of_mem_set N with N|rfl
   · exact H r N
   · refine⟨by rw[List.length_set];exact(H _ (List.getElem_mem S)).1,fun x f=>?_⟩
     rcases List.mem_or_eq_of_mem_set f with f|rfl
     · exact(H _ (List.getElem_mem S)).2 x f
     · exact Z
 · have F:j<R.length:=by simpa using Y
   obtain⟨b',o',y,J,K⟩:=X j F
   rw[P]at y;injection y with y
   injection y with ay A
   subst ay;subst A;refine⟨b,o,P,by simpa using J,fun d x f=>?_⟩
   have M:R[j].length=n:=(H _ (List.getElem_mem F)).1;by_cases E:i=j
   · subst E
     rw[List.getElem_set_self]at f;by_cases z:c=d
     · subst z
       rw[List.getElem?_set_self (by rw[M];exact Q)]at f;injection f with f
       subst f;have G:=K c (R[i][c]'(by rw[M];exact Q)) (List.getElem?_eq_getElem _);exact World.cell?_setCell_same' _ _ _ (by rw[G];rfl)
     · rw[List.getElem?_set_ne z]at f
       rw[World.cell?_setCell_other (h:=fun e=>z (by injection e with _ A;omega))];exact K d x f
   · rw[List.getElem_set_ne E]at f
     have hd:d<n:=by
      have:=(List.getElem?_eq_some_iff.1 f).1
      rw[M]at this;exact this
     rw[World.cell?_setCell_other (h:=fun e=>by
      injection e with _ A
      rcases Nat.lt_or_ge i j with h|h
      · have I:(i+1)*n≤j*n:=Nat.mul_le_mul_right n h
        rw[Nat.add_mul]at I;omega
      · have I:(j+1)*n≤i*n:=Nat.mul_le_mul_right n (by omega)
        rw[Nat.add_mul]at I;omega)]
     exact K d x f
def Cl (N:Nat) (ga:Value) (wr:World) (l:List Co) (us0 us:List Value) (k:Nat):Prop:=us.length=l.length∧
 (∀(j:Nat) (c:Co) (u:Value),j<k→l[j]?=some c→us[j]?=some u→bk wr u c.ch∧aw N wr u∧ ∀b,u.ownBlock=some b→ga.ownBlock≠some b)∧ ∀j,k≤j→us[j]?=us0[j]?
theorem Cl.below {N:Nat} {o:Value} {w w':World} {l:List Co} {a us:List Value} {k:Nat} (h:Cl N o w l a us k) (y:Below w.heap.size w w'):Cl N o w' l a us k:=
 ⟨h.1,fun j c u e d f=>⟨(h.2.1 j c u e d f).1.below y,(h.2.1 j c u e d f).2.1.below y,(h.2.1 j c u e d f).2.2⟩,h.2.2⟩
theorem Cl.next {N:Nat} {w:World} {l:List Co} {E us:List Value} {k b o x n cap:Nat} {u:Value} (h:Cl N (.slice (some ⟨b,o,none⟩) n cap) w l E us k) (O:k<l.length) (Q:bk w u l[k].ch) (P:aw N w u) (A: ∀g,u.ownBlock=some g→b≠g):
    Cl N (.slice (some ⟨b,o,none⟩) n cap) (w.setCell ⟨b,x,none⟩ u) l E (us.set k u) (k+1):=by
 obtain⟨I,J,K⟩:=h
 refine⟨by rw[List.length_set];exact I,fun j c y M d a=>?_,fun j M=>?_⟩
 · by_cases z:k=j
   · subst z
     rw[List.getElem?_set_self (by omega)]at a;injection a with a
     subst a;rw[List.getElem?_eq_getElem O]at d;injection d with d
     subst d;exact⟨Q.nbo (au _ _ _ _) (fun g f e=>A g f e.symm),P.setCell _ _ _,fun g f e=>A g f (by simpa[Value.ownBlock]using e)⟩
   · rw[List.getElem?_set_ne z]at a
     obtain⟨G,H,F⟩:=J j c y (by omega) d a
     exact⟨G.nbo (au _ _ _ _) (fun g f e=>F g f (by simp[Value.ownBlock,e])),H.setCell _ _ _,F⟩
 · rw[List.getElem?_set_ne (by omega)]
   exact K j (by omega)
theorem Cl.done {N:Nat} {y:Value} {w:World} {l:List Co} {e us:List Value} (h:Cl N y w l e us l.length):iy w l us∧ ∀u∈us,aw N w u:=by
 obtain⟨z,f,_⟩:=h
 refine⟨⟨z,fun i c u j d=>(f i c u (List.getElem?_eq_some_iff.1 j).1 j d).1⟩,fun u d=>?_⟩
 obtain⟨i,o⟩:=List.getElem?_of_mem d
 have a:i<l.length:=by have:=(List.getElem?_eq_some_iff.1 o).1;omega
 exact(f i _ u a (List.getElem?_eq_getElem a) o).2.1
theorem wB (l:List Co) (v:Value) (w:World) (hv:dd w v l) (hn:l.length≤1000) (CI: ∀c∈l,c.ch.length≤1000000000):
    Calls prog 145 #[v] w fun e w'=> ∃u,e= .returned u∧cT w.heap.size w' u l∧Below w.heap.size w w':=by
 have HV:=hid hv;have S:=hid CI;clear CI;obtain⟨f,F,C9⟩:=wA hv
 have Q:=hid F;have CO:=hid C9;have O:=F.1;obtain⟨_,_,rfl,_⟩:=hv
 clear F C9;go_enter func145,ntmps145
 go_wp2_with fail;refine(wu (cQ l f) _ _ CO.out (by rw[fW O];omega)).mono ?_
 rintro e w1 ⟨u,rfl,CC,C7,CS⟩;have K:=hid CC;have J:=hid C7;have CV:=fW O;obtain⟨ga,a,rfl,CT,_⟩:=CC
 rw[CV]at K J CT⊢;clear C7;go_wp2_with fail;go_loopw [9] (fun i wr=> ∃(k:Nat) (G:List Value),k≤l.length∧i= .int .i64 k∧Hid (aJ 3 wr (.slice ga l.length a) (cQ l G))∧Hid (aw w.heap.size wr (.slice ga l.length a))∧Hid (Cl w.heap.size (.slice ga l.length a) wr l f G k)∧Below w.heap.size w wr) (fun i _=>l.length-(intOf i).toNat)
 case atStart=>exact⟨0,f,Nat.zero_le _,rfl,K,J,⟨O,fun j c u hj=>absurd hj (Nat.not_lt_zero _),fun j _=>rfl⟩,CS⟩
 case round=>
  obtain⟨k,G,hk,rfl,HR,HO,H,E⟩:=hrel
  clear K J;by_cases z:k<l.length
  · have P:=H.out.1
    have N:k<(cQ l G).length:=by rw[fW P];exact z
    have d:=ly P z;rw[List.getElem?_eq_getElem N]at d;injection d with d
    obtain⟨a',CX,CW,_,_,_,CE⟩:=HR.out
    injection CW with ay e2 e3
    subst ay;clear e2 e3;obtain⟨b,o,CU,hb,he⟩:=CE k N
    subst CU;rw[d]at he;have c2:=he 2 _ rfl
    have CJ:G[k]'(by omega)=f[k]'(by omega):=by
     have:=H.out.2.2 k (Nat.le_refl _)
     rw[List.getElem?_eq_getElem (by omega),List.getElem?_eq_getElem (by omega)]at this;injection this
    rw[CJ]at c2;have C5:=Q.out.2 k l[k] (f[k]'(by omega)) (List.getElem?_eq_getElem z) (List.getElem?_eq_getElem (by omega));have U:=hid (lp.1 (C5.below E));have CL:=hid (show((l[k]).ch.map fU).length≤1000000000000 from by rw[List.length_map];exact Nat.le_trans (S.out _ (List.getElem_mem z)) (by decide));obtain⟨xa,xc,hx,_⟩:=C5
    rw[hx]at c2 U;have CR:=hid d;have X:Hid (∀(w':World) (y:Value),Cl w.heap.size (.slice (some ⟨b,o,none⟩) l.length a) w' l f G k→bk w' y (l[k]).ch→aw w.heap.size w' y→(∀g,y.ownBlock=some g→b≠g)→Cl w.heap.size (.slice (some ⟨b,o,none⟩) l.length a) (w'.setCell ⟨b,o+k*3+2,none⟩ y) l f (G.set k y) (k+1)):=(fun w' y h1 h2 h3 h4=>h1.next z h2 h3 h4:_)
    have C4:=hid (show∀y,(cQ l G).set k (((cQ l G)[k]).set 2 y)=cQ l (G.set k y)from fun y=>by rw[d,←ww P z];rfl);clear d CE he CJ hx;generalize CH:(l[k]).ch=al at*;clear CH;go_wp2_with fail;refine(qp (al.map fU) _ _ U.out CL.out).mono ?_
    rintro e w2 ⟨y,rfl,CD,C8,A⟩;have V:=hid (lp.2 CD);have Z:=hid C8;obtain⟨ya,yc,rfl,_⟩:=V.out
    have CP:=hid (HR.out.below A);have Y:=hid (HO.out.below A);have T:=hid (H.out.below A);have CF:=af E A;have C6:w.heap.size≤b:=(HO.out b rfl).1;obtain⟨_,cur,TT,I⟩:=Y.out b rfl
    have CY:w2.frozen? ⟨b,o+k*3+2,none⟩=false:=by simp[World.frozen?,I]
    have d2:=(A.cell (p:=⟨b,o+k*3+2,none⟩) hb).trans c2;have CM:=hid (show∀g,(Value.slice ya al.length yc).ownBlock=some g→b≠g from fun g hg=>by have:=(Z.out g hg).1;omega);have C3:=hid (Z.out.mono (Nat.le_trans C6 (Nat.le_of_lt hb)));have CK:=hid (X.out w2 _ T.out V.out C3.out CM.out);have M:=CP.out.set rfl N (by decide:2<3) (.slice ya al.length yc) rfl;rw[C4.out]at M;have CQ:=hid M;have CN:=hid (Y.out.setCell b (o+k*3+2) (.slice ya al.length yc));have CG:Below w.heap.size w (w2.setCell ⟨b,o+k*3+2,none⟩ (.slice ya al.length yc)):=CF.setCell (p:=⟨b,o+k*3+2,none⟩) C6 _;clear CD C8 M I X C4 CR;go_wp2_with fail;go_roundw
    case rel=>exact⟨k+1,_,by omega,by simp,CQ,CN,CK,CG⟩
    case measure=>simp[intOf];omega
  · obtain rfl:k=l.length:=by omega
    obtain⟨h1,h2⟩:=H.out.done
    have HD:=hid (show cT w.heap.size wr (.slice ga l.length a) l from⟨G,h1,HR.out,HO.out,h2⟩);clear h1 h2;go_wp2_with fail;go_ret;exact⟨_,rfl,HD.out,E⟩
theorem cT.nbo {B:Nat} {W e:World} {v:Value} {l:List Co} {g:Nat} (h:cT B W v l) (d:W.grownBy e (some g)) (G:g<B):cT B e v l:=by
 obtain⟨A,f,E,j,o⟩:=h
 have y: ∀b,v.ownBlock=some b→b≠g:=fun b hb=>by have:=(j b hb).1;omega
 have z: ∀u∈A,∀b,u.ownBlock=some b→b≠g:=fun u a b hb=>by have:=(o u a b hb).1;omega
 exact⟨A,⟨f.1,fun i c u F a=>(f.2 i c u F a).nbo d (z u (List.mem_of_getElem? a))⟩,E.nbo d y,j.nb d y,fun u a=>(o u a).nb d (z u a)⟩
def hD (B:Nat) (w:World) (v:Value) (J:Jo):Prop:= ∃vb vc,v= .agg #[vb,.int .i64 J.first,vc]∧aj w vb J.base∧aw B w vb∧cT B w vc J.cos
theorem hD.lies {B:Nat} {w:World} {v:Value} {J:Jo} (h:hD B w v J):fV w v J:=by
 obtain⟨f,j,a,d,_,e⟩:=h
 exact⟨f,j,a,d,e.lies⟩
theorem hD.below {B:Nat} {w w':World} {v:Value} {J:Jo} (h:hD B w v J) (a:Below w.heap.size w w'):hD B w' v J:=by
 obtain⟨o,u,d,e,f,j⟩:=h
 exact⟨o,u,d,e.below a,f.below a,j.below a⟩
theorem hD.mono {B a:Nat} {w:World} {v:Value} {J:Jo} (h:hD B w v J) (d:a≤B):hD a w v J:=by
 obtain⟨u,y,e,f,j,o⟩:=h
 exact⟨u,y,e,f,j.mono d,o.mono d⟩
theorem wC (J:Jo) (v:Value) (w:World) (hv:fV w v J) (hn:J.cos.length≤1000) (CH:J.base.length≤1000) (Y: ∀c∈J.cos,c.ch.length≤1000000000):
    Calls prog 98 #[v] w fun e w'=> ∃u,e= .returned u∧hD w.heap.size w' u J∧Below w.heap.size w w':=by
 obtain⟨vb,vc,rfl,Z,C3⟩:=hv
 have CD:=hid Z;have CE:=hid C3;have C6:=hid Y;obtain⟨ba,bc,rfl,_⟩:=Z
 obtain⟨O,P,rfl,_⟩:=C3
 clear Y;obtain⟨G,o⟩: ∃G,G=(w.alloc (.cells #[.slice ba J.base.length bc,.int .i64 J.first,.slice O J.cos.length P] 90)).alloc (.cells #[.slice none 0 0,.int .i64 0,.slice none 0 0] 90):=⟨_,rfl⟩
 have X:Below w.heap.size w G:=by rw[o];exact((Below.refl _ _).alloc (Nat.le_refl _) _).alloc (by simp) _
 have C5:=hid (show Cs G w.heap.size [.slice ba J.base.length bc,.int .i64 J.first,.slice O J.cos.length P]from by rw[o];exact(Cs.new w [.slice ba J.base.length bc,.int .i64 J.first,.slice O J.cos.length P] _).below ((Below.refl _ _).alloc (Nat.le_refl _) _))
 have K:=hid (show Cs G (w.heap.size+1) [.slice none 0 0,.int .i64 0,.slice none 0 0]from by
  have:=Cs.new (w.alloc (.cells #[.slice ba J.base.length bc,.int .i64 J.first,.slice O J.cos.length P] 90)) [.slice none 0 0,.int .i64 0,.slice none 0 0] 90
  rw[o];simpa using this)
 go_enter func98,ntmps98
 go_wp2_with fail;rw[←o];clear o;refine(ny (J.base.map Pp.cells) _ _ (jA.1 (CD.out.below X)) (by simp;omega)).mono ?_
 rintro e w1 ⟨u1,rfl,T,Q,A⟩;have M:=hid (jA.2 T);have N:=hid Q;obtain⟨H,I,rfl,_⟩:=M.out
 have CG:w.heap.size+1<G.heap.size:=K.out.lt;have CJ:=A.size;have y:=hid (C5.out.below A);have c0:=y.out.cell 0 rfl;have f0:=y.out.fr 0;have d2:=y.out.cell 2 rfl;obtain⟨F,a⟩: ∃F,F=w1.setCell ⟨w.heap.size,0,none⟩ (.slice H J.base.length I):=⟨_,rfl⟩
 have CK:F.heap.size=w1.heap.size:=by rw[a];simp
 have C4:=hid (show Cs F w.heap.size [.slice H J.base.length I,.int .i64 J.first,.slice O J.cos.length P]from by rw[a];exact y.out.set 0 _);have CF:=hid (show Cs F (w.heap.size+1) [.slice none 0 0,.int .i64 0,.slice none 0 0]from by rw[a];exact(K.out.below A).other (by omega) _);have C7:=hid (show aj F (.slice H J.base.length I) J.base from by rw[a];exact M.out.nbo (au _ _ _ _) (fun b hb=>by have:=(N.out b hb).1;omega));have C9:=hid (show aw G.heap.size F (.slice H J.base.length I)from by rw[a];exact N.out.setCell _ _ _);have V:Below w.heap.size w F:=by rw[a];exact(af X A).setCell (p:=⟨w.heap.size,0,none⟩) (Nat.le_refl _) _
 clear T Q;go_wp2_with fail;rw[←a];clear a c0 f0 d2;refine(wB J.cos _ _ (CE.out.below V) hn C6.out).mono ?_
 rintro e w3 ⟨u3,rfl,S,f⟩;have CC:=hid S;obtain⟨CM,E,⟨ya,yc,hy,_⟩,_⟩:=S
 rw[fW E.1]at hy;subst hy;clear E;have CL:=f.size;have z:=hid (C4.out.below f);have d:=hid (CF.out.below f);have c0:=z.out.cell 0 rfl;have c1:=z.out.cell 1 rfl;have c2:=z.out.cell 2 rfl;have f2:=z.out.fr 2;have y0:=d.out.cell 0 rfl;have y1:=d.out.cell 1 rfl;have y2:=d.out.cell 2 rfl;have g0:=d.out.fr 0;have g1:=d.out.fr 1;have g2:=d.out.fr 2;have U:=af V f;have C8:=hid (C7.out.below f);have j:=hid (C9.out.below f);have CI: ¬w.heap.size=w.heap.size+1:=by omega
 go_wp2_with fail;refine bodyPost_ret (v:= .agg #[.slice H J.base.length I,.int .i64 J.first,.slice ya J.cos.length yc]) (by simp[results,results98,go_sem,y0,y1,y2]) rfl ⟨_,rfl,?_,?_⟩
 · have k0: ∀b,(Value.slice H J.base.length I).ownBlock=some b→b≠w.heap.size:=fun b hb=>by have:=(j.out b hb).1;omega
   have k1: ∀b,(Value.slice H J.base.length I).ownBlock=some b→b≠w.heap.size+1:=fun b hb=>by have:=(j.out b hb).1;omega
   refine⟨_,_,rfl,(((C8.out.nbo (au _ _ _ _) k0).nbo (au _ _ _ _) k1).nbo (au _ _ _ _) k1).nbo (au _ _ _ _) k1,((((j.out.setCell _ _ _).setCell _ _ _).setCell _ _ _).setCell _ _ _).mono (by omega),?_⟩
   exact((((CC.out.nbo (au _ _ _ _) (by omega)).nbo (au _ _ _ _) (by omega)).nbo (au _ _ _ _) (by omega)).nbo (au _ _ _ _) (by omega)).mono (by omega)
 · exact(((U.setCell (p:=⟨w.heap.size,2,none⟩) (Nat.le_refl _) _).setCell (p:=⟨w.heap.size+1,0,none⟩) (Nat.le_succ _) _).setCell (p:=⟨w.heap.size+1,1,none⟩) (Nat.le_succ _) _).setCell (p:=⟨w.heap.size+1,2,none⟩) (Nat.le_succ _) _
end Go.Proofs.YtgamnckfmmbjdaaGreatDoor
