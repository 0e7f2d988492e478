/- A player asks for its first client: pick, post, ask and fetch, where no letter is on its way. -/
import Derived.Test.YtgamnckfmmbjdaaGreatDoorWGZM
import Derived.Test.YtgamnckfmmbjdaaGreatDoorWGZO
set_option linter.unusedSimpArgs false
set_option linter.unusedVariables false
namespace Go.Proofs.YtgamnckfmmbjdaaGreatDoor
open Go.RowKit Go.Maps Go.Proofs.Tryz
set_option maxHeartbeats 8000000
set_option maxRecDepth 100000
theorem B0 (b o n cap:Nat) (w:World) (f:0<n):
    Calls prog 106 #[.slice (some ⟨b,o,none⟩) n cap,.int .i64 0] w fun e w'=>e= .returned (.tuple #[.pointer (some ⟨b,o,none⟩),.int .i64 0])∧Below w.heap.size w w':=by
 have a:(0:Int)<n:=by omega
 have d: ¬(n:Int)≤0:=by omega
 go_enter func106,ntmps106
 go_wp2_with fail;go_ret2;exact⟨rfl,Below.refl _ _⟩
def oL (w:World) (b:Nat) (p0 p1 p2 p3 p4 p5 p6 p7:Value) (x:Lr) (w':World):Prop:=w.grownBy w' (some b)∧ ∃va,aJ 4 w' va [dV x]∧aw w.heap.size w' va∧Cs w' b [p0,p1,p2,p3,p4,p5,p6,p7,va]
theorem B2 (x:Lr) (b:Nat) (p0 p1 p2 p3 p4 p5 p6 p7:Value) (w:World) (S:Cs w b [p0,p1,p2,p3,p4,p5,p6,p7,.slice none 0 0]):
    Calls prog 115 #[.pointer (some ⟨b,0,none⟩),.agg #[.int .i64 x.fr,.int .i64 x.kind,.bool x.ans,.string x.tx]] w fun e w'=>e= .returned (.int .i64 0)∧oL w b p0 p1 p2 p3 p4 p5 p6 p7 x w':=by
 obtain⟨aQ,V,Y,Z,C3⟩:=info_parts Tryz.infoRLr
 obtain⟨a,f⟩: ∃a,a=w.alloc (.cells #[.int .i64 x.fr,.int .i64 x.kind,.bool x.ans,.string x.tx] 66):=⟨_,rfl⟩
 have A:Below w.heap.size w a:=by rw[f];exact(Below.refl _ _).alloc (Nat.le_refl _) _
 have J:=hid (show Cs a w.heap.size [.int .i64 x.fr,.int .i64 x.kind,.bool x.ans,.string x.tx] by rw[f];exact Cs.new w [.int .i64 x.fr,.int .i64 x.kind,.bool x.ans,.string x.tx] _);have I:=hid (S.below A);have C6:=S.lt;have o:=I.out.lt;have C7: ¬b=w.heap.size:=by omega
 have c8:=I.out.cell 8 rfl;have f8:=I.out.fr 8;have x0:=J.out.cell 0 rfl;have aD:=J.out.cell 1 rfl;have x2:=J.out.cell 2 rfl;have x3:=J.out.cell 3 rfl;have d:Below a.heap.size a (a.drew.alloc (.cells #[.int .i64 x.fr,.int .i64 x.kind,.bool x.ans,.string x.tx] 66)):=((Below.refl _ _).drew).alloc (Nat.le_refl _) _;have Q:=hid (show aJ 4 (a.drew.alloc (.cells #[.int .i64 x.fr,.int .i64 x.kind,.bool x.ans,.string x.tx] 66)) (.slice none 0 0) []from⟨none,0,rfl,Nat.le_refl _,by simp,by simp,fun i h=>absurd h (by simp)⟩)
 have P:=hid (show(dV x).length=4∧ ∀u∈dV x,u.oneCell'=true from⟨rfl,fun u hu=>by
  simp only[dV,List.mem_cons,List.not_mem_nil,or_false]at hu;rcases hu with rfl|rfl|rfl|rfl<;>rfl⟩)
 have N:=hid (show∀j y,(dV x)[j]?=some y→(a.drew.alloc (.cells #[.int .i64 x.fr,.int .i64 x.kind,.bool x.ans,.string x.tx] 66)).cell? ((⟨a.heap.size,0,none⟩:Addr).add j)=some y from fun j y hj=>by
  rw[Addr.add_lit,Nat.zero_add];exact(Cs.new a.drew [.int .i64 x.fr,.int .i64 x.kind,.bool x.ans,.string x.tx] 66).cell j hj)
 have F:=hid f.symm;clear f S;go_enter func115,ntmps115
 go_upto_region 1 with fail;rw[F.out];clear F;go_wp2_with fail;go_region_law (refine xj rfl (.tmp 17) (.tmp 19) 30 rfl 66 aQ (.agg #[.int .i64 0,.int .i64 0,.bool false,.string ⟨#[]⟩]) 4 40 underlying30 V Y Z C3 rfl (by decide) none [] 0 rfl (by simp[Act.eval,Act.put]) Q.out ⟨a.heap.size,0,none⟩ 1 (by simp[Act.eval,Act.put]) (dV x) P.out N.out (by simp) (by decide) ?_;rintro v5 w5 ⟨G,T,U⟩;have O:=hid G;have E:=hid T;obtain⟨C4,C5,X,_⟩:=G;subst X;have K:Below a.heap.size a w5:=d.trans (U.mono d.size);have d8:=(K.cell (p:=⟨b,8,none⟩) o).trans c8;have e8:=(K.frozen (p:=⟨b,8,none⟩) o).trans f8)
 all_goals
  have H:=af A K
  have z: ∀g,(Value.slice C4 ([]++[dV x]).length C5).ownBlock=some g→g≠b:=fun g hg=>by
   have h6:a.heap.size≤g:=Nat.le_trans d.size (E.out g hg).1;omega
  have M:=hid (I.out.below K);go_wp2_with fail;go_ret;exact⟨rfl,Nb.trans (Nb.below b H) (au _ _ _ _),_,O.out.nbo (au _ _ _ _) z,(E.out.nb (au _ _ _ _) z).mono (Nat.le_trans A.size d.size),M.out.set 8 _⟩
def dM:Lr:=⟨0,2,false,⟨cI.toArray⟩⟩
theorem B3 (b:Nat) (O P Q S T U V X:Value) (vq:Value) (w:World) (Z:Cs w b [O,P,Q,S,T,U,V,X,.slice none 0 0]) (hq:iZ w vq bD) (h6:5<w.heap.size) (hv:aR w):
    Calls prog 109 #[.pointer (some ⟨b,0,none⟩),.int .i64 0,vq] w fun e w'=>e= .returned (.int .i64 0)∧oL w b O P Q S T U V X dM w':=by
 have F:=hid hq;obtain⟨va,rfl,H,I,rfl,_⟩:=hq
 simp only[bD,List.length_nil]at F⊢;obtain⟨y,f⟩: ∃y,y=w.alloc (.cells #[.int .i64 2,.string ⟨#[97]⟩,.string ⟨#[102]⟩,.string ⟨#[]⟩,.string ⟨#[]⟩,.string ⟨#[]⟩,.int .i64 0,.int .i64 0,.int .i64 0,.slice H 0 I] 57):=⟨_,rfl⟩
 have d:Below w.heap.size w y:=by rw[f];exact(Below.refl _ _).alloc (Nat.le_refl _) _
 have a:=hid (show Cs y w.heap.size [.int .i64 2,.string ⟨#[97]⟩,.string ⟨#[102]⟩,.string ⟨#[]⟩,.string ⟨#[]⟩,.string ⟨#[]⟩,.int .i64 0,.int .i64 0,.int .i64 0,.slice H 0 I] by rw[f];exact Cs.new w [.int .i64 2,.string ⟨#[97]⟩,.string ⟨#[102]⟩,.string ⟨#[]⟩,.string ⟨#[]⟩,.string ⟨#[]⟩,.int .i64 0,.int .i64 0,.int .i64 0,.slice H 0 I] _);have HC:=hid (Z.below d);have G:=hid (hv.belowB h6 d);have C3:5<y.heap.size:=by have:=d.size;omega
 have A:=hid (Bi bD _ y (F.out.below d) Bw (by omega) G.out.pow);rw[Bu]at A;have x0:=a.out.cell 0 rfl;have aD:=a.out.cell 1 rfl;have x2:=a.out.cell 2 rfl;have x3:=a.out.cell 3 rfl;have x4:=a.out.cell 4 rfl;have x5:=a.out.cell 5 rfl;have x6:=a.out.cell 6 rfl;have x7:=a.out.cell 7 rfl;have x8:=a.out.cell 8 rfl;have x9:=a.out.cell 9 rfl;have z:=hid f.symm;clear f Z hv F;go_enter func109,ntmps109
 go_upto_region 1 with fail;rw[z.out];clear z;go_wp2_with fail;refine A.out.mono ?_
 rintro e w1 ⟨rfl,o⟩;have j:=af d o;have E:=hid (HC.out.below o);have y0:=(a.out.below o).cell 0 rfl;clear A x0 aD x2 x3 x4 x5 x6 x7 x8 x9;obtain⟨Y,u⟩: ∃Y:ByteArray,Y=⟨cI.toArray⟩:=⟨_,rfl⟩
 rw[←u];have HT:=hid u;clear u;go_wp2_with fail;refine(B2 ⟨0,2,false,Y⟩ b O P Q S T U V X w1 E.out).mono ?_
 rintro e w2 ⟨rfl,J,va,K,M,N⟩;go_wp2_with fail;go_ret;refine⟨rfl,Nb.trans (Nb.below b j) J,?_⟩
 rw[dM,←HT.out];exact⟨va,K,M.mono j.size,N⟩
theorem B4:kI aH=bD:=by rw[kI,if_pos jN];rfl
theorem B5 (b g o P:Nat) (p0 p1 p2 p3 p4 p5 p6:Value) (w:World) (hC:Cs w b [p0,p1,p2,p3,p4,p5,p6,.slice (some ⟨g,o,none⟩) 1 P,.slice none 0 0]) (hg:g<w.heap.size) (CH:g≠b) (hc:en w g o aH) (h6:5<w.heap.size) (hv:aR w):
    Calls prog 58 #[.pointer (some ⟨b,0,none⟩),.agg #[.int .i64 2,.int .i64 0,.int .i64 0,.string ⟨#[]⟩,.string ⟨#[]⟩,.string ⟨#[]⟩,.int .i64 0,.int .i64 0,.string ⟨#[]⟩,.string ⟨#[]⟩,.string ⟨#[]⟩,.string ⟨#[]⟩,.string ⟨#[]⟩,.int .i64 0,.int .i64 0,.int .i64 0,.slice none 0 0]] w fun e w'=>e= .returned (.int .i64 0)∧oL w b p0 p1 p2 p3 p4 p5 p6 (.slice (some ⟨g,o,none⟩) 1 P) dM w':=by
 obtain⟨G,E⟩: ∃G,G=w.alloc (.cells #[.int .i64 2,.int .i64 0,.int .i64 0,.string ⟨#[]⟩,.string ⟨#[]⟩,.string ⟨#[]⟩,.int .i64 0,.int .i64 0,.string ⟨#[]⟩,.string ⟨#[]⟩,.string ⟨#[]⟩,.string ⟨#[]⟩,.string ⟨#[]⟩,.int .i64 0,.int .i64 0,.int .i64 0,.slice none 0 0] 59):=⟨_,rfl⟩
 have z:Below w.heap.size w G:=by rw[E];exact(Below.refl _ _).alloc (Nat.le_refl _) _
 have S:=hid (show Cs G w.heap.size [.int .i64 2,.int .i64 0,.int .i64 0,.string ⟨#[]⟩,.string ⟨#[]⟩,.string ⟨#[]⟩,.int .i64 0,.int .i64 0,.string ⟨#[]⟩,.string ⟨#[]⟩,.string ⟨#[]⟩,.string ⟨#[]⟩,.string ⟨#[]⟩,.int .i64 0,.int .i64 0,.int .i64 0,.slice none 0 0] by rw[E];exact Cs.new w [.int .i64 2,.int .i64 0,.int .i64 0,.string ⟨#[]⟩,.string ⟨#[]⟩,.string ⟨#[]⟩,.int .i64 0,.int .i64 0,.string ⟨#[]⟩,.string ⟨#[]⟩,.string ⟨#[]⟩,.string ⟨#[]⟩,.string ⟨#[]⟩,.int .i64 0,.int .i64 0,.int .i64 0,.slice none 0 0] _);have Q:=hid (hC.below z);have H:=hid (hc.below hg z);have I:=hid (fun X (hW:Below w.heap.size w X)=>hv.belowB h6 hW);have CD:=S.out.lt;have C5:=Q.out.lt;have C7:g<G.heap.size:=by have:=z.size;omega
 have aD:=S.out.cell 1 rfl;have c7:=Q.out.cell 7 rfl;have J:=hid E.symm;clear E hC hv hc;go_enter func58,ntmps58
 go_upto_region 1 with fail;rw[J.out];clear J;go_wp2_with fail
 go_region_held3 (fun W=>W.cell? ⟨w.heap.size,1,none⟩=some (.int .i64 0)∧W.cell? ⟨b,7,none⟩=some (.slice (some ⟨g,o,none⟩) 1 P)) (go_keep) (first
  |(go_at_call 106;refine(B0 g o 1 P _ (by decide)).mono ?_;rintro e O ⟨rfl,C4⟩;have d:Below G.heap.size G O:=((Below.refl _ _).drew).trans C4;have j0:=(d.cell (p:=⟨w.heap.size,1,none⟩) CD).trans aD;have j1:=(d.cell (p:=⟨b,7,none⟩) C5).trans c7))
 have f:=af z d;have Z:=hid (S.out.below d);have U:=hid (Q.out.below d);have CF:=hid (I.out O f);have CG:5<O.heap.size:=by have:=f.size;omega
 obtain⟨vb,vm,va,d0,d1,d2,d3,d4,d5,d6,d7,l1,l2,l3⟩:=H.out.below C7 d
 have HN:=hid (show dD O (.agg #[.string ⟨#[97]⟩,.string ⟨#[102]⟩,vb,.int .i64 0,vm,.string ⟨#[]⟩,va,.int .i64 0]) aH from⟨vb,vm,va,rfl,l1,l2,l3⟩);obtain⟨ea,ec,rfl,_⟩:=l1
 obtain⟨na,nc,rfl,_⟩:=l2
 obtain⟨qa,qc,rfl,_⟩:=l3
 simp only[aH,ey,List.length_nil]at d0 d1 d2 d3 d4 d5 d6 d7 HN;clear aD c7 j0 j1 H S Q;go_wp2_with fail;refine(zX aH _ O HN.out oF).mono ?_
 rintro e M ⟨u,rfl,hq,F⟩;rw[jN];rw[B4]at hq;have HQ:=hid hq;obtain⟨vq,rfl,aq,cq,rfl,_⟩:=hq
 simp only[bD,List.length_nil]at HQ⊢;have K:=af f F;obtain⟨N,A⟩: ∃X,X=M.alloc (.cells #[.int .i64 2,.string ⟨#[97]⟩,.string ⟨#[102]⟩,.string ⟨#[]⟩,.string ⟨#[]⟩,.string ⟨#[]⟩,.int .i64 0,.int .i64 0,.int .i64 0,.slice aq 0 cq] 57):=⟨_,rfl⟩
 have y:Below M.heap.size M N:=by rw[A];exact(Below.refl _ _).alloc (Nat.le_refl _) _
 have j:=hid (show Cs N M.heap.size [.int .i64 2,.string ⟨#[97]⟩,.string ⟨#[102]⟩,.string ⟨#[]⟩,.string ⟨#[]⟩,.string ⟨#[]⟩,.int .i64 0,.int .i64 0,.int .i64 0,.slice aq 0 cq] by rw[A];exact Cs.new M [.int .i64 2,.string ⟨#[97]⟩,.string ⟨#[102]⟩,.string ⟨#[]⟩,.string ⟨#[]⟩,.string ⟨#[]⟩,.int .i64 0,.int .i64 0,.int .i64 0,.slice aq 0 cq] _);have a:=af K y;have Y:=hid ((Z.out.below F).below y);have T:=hid ((U.out.below F).below y);have V:=hid (I.out N a);have C3:5<N.heap.size:=by have:=a.size;omega
 have y1:=Y.out.cell 1 rfl;have r0:=j.out.cell 0 rfl;have r1:=j.out.cell 1 rfl;have r2:=j.out.cell 2 rfl;have r3:=j.out.cell 3 rfl;have r4:=j.out.cell 4 rfl;have r5:=j.out.cell 5 rfl;have r6:=j.out.cell 6 rfl;have r7:=j.out.cell 7 rfl;have r8:=j.out.cell 8 rfl;have r9:=j.out.cell 9 rfl;clear d0 d1 d2 d3 d4 d5 d6 d7;go_upto_region 5 with fail;try simp only[World.setCell_alloc_new]
 rw[←A];clear A;go_wp2_with fail;refine(B3 b p0 p1 p2 p3 p4 p5 p6 (.slice (some ⟨g,o,none⟩) 1 P) _ N T.out (HQ.out.below y) C3 V.out).mono ?_
 rintro e w3 ⟨rfl,C6,CE,C8,C9,CC⟩;go_wp2_with fail;go_ret;exact⟨rfl,Nb.trans (Nb.below b a) C6,CE,C8,C9.mono a.size,CC⟩
theorem dJ.below {B:Nat} {w w':World} {v:Value} {W:Wd} (h:dJ B w v W) (a:Below w.heap.size w w'):dJ B w' v W:=by
 obtain⟨I,J,ag,H,d,e,⟨f,⟨j,A⟩,o,E⟩,u,y,F,G⟩:=h
 exact⟨I,J,ag,H,d,e,⟨f.below a,⟨j.below a,A.below a⟩,o.below a,E.below a⟩,u.below a,y.below a,F.below a,G.kept (row:=none) ⟨a.os,a.tape,a.output,a.size,fun k z _=>a.block k z⟩ (by cases hb:d.ownBlock with|none=>exact Or.inl rfl|some k=>exact Or.inr (by simp))⟩
theorem dJ.cl0 {B:Nat} {w:World} {J K M N O P Q S:Value} {d:Option Addr} {n j:Nat} {H:Hb} {c:Cn} {m:List Lr} (h:dJ B w (.agg #[J,K,M,N,O,P,Q,.slice d n j,S]) ⟨H,[c],m⟩): ∃g o,d=some ⟨g,o,none⟩∧B≤g∧g<w.heap.size∧en w g o c:=by
 obtain⟨Y,Z,ag,T,vl,e,_,f,_⟩:=h
 simp only[Value.agg.injEq]at e
 have y:Value.slice d n j=T:=by
  have:=congrArg (fun a=>a.getD 7 .nilFunc) e
  simpa using this
 subst y;obtain⟨X,_,_,G,_⟩:=id f
 obtain⟨a,u,I,_,_,A⟩:=f.lies
 injection I with z U V
 subst z;obtain⟨g,o,rfl,F,E⟩:=A 0 (by simp)
 exact⟨g,o,rfl,(G g rfl).1,F,by simpa using E⟩
theorem Tryz.zeroEvF (w:World):(zeroValue 81).run prog w= .ok .nilFunc w:=by rw[Tryz.zeroValue81]
theorem B6 {p:Addr} {e n:Nat} {w:World} (h:w.ownsMap prog 3 (ig p) e n kN):(Instr.lookup 83 (.map (some e)) (.int .i64 2) true).run prog w= .ok (.tuple #[.func (.func 58) #[.pointer (some p)] #[],.bool true]) w:=by
 obtain⟨v,f,a,d⟩:=h.look_ok (int_keyed underlying3) underlying83 (Tryz.zeroEvF w) (show ig p .nilFunc=some (.lit (.int .i64 0),[])from rfl) (keyOf_int_mk underlying3 (show(Lit.int .i64 2).wf=true by decide))
 rw[Bc]at a;rw[Bd]at d;rw[A3 (n:=58) d (by decide)]at a;exact a
theorem B7 (td:ByteArray→Int) (H:Hb) (v:Value) (w:World) (hv:di w v ⟨H,[aH],[]⟩) (hn:kH v= .slice none 0 0) (hs:iD ⟨H,[aH],[]⟩) (h0:bU td ⟨H,[aH],[]⟩=0) (h6:5<w.heap.size) (CL:aR w):
    Calls prog 11 #[v,.agg #[.int .i64 2,.int .i64 0,.int .i64 0,.string ⟨#[]⟩,.string ⟨#[]⟩,.string ⟨#[]⟩,.int .i64 0,.int .i64 0,.string ⟨#[]⟩,.string ⟨#[]⟩,.string ⟨#[]⟩,.string ⟨#[]⟩,.string ⟨#[]⟩,.int .i64 0,.int .i64 0,.int .i64 0,.slice none 0 0]] w fun e w'=> ∃u,e= .returned (.tuple #[u,.int .i64 0])∧di w' u ⟨H,[aH],[dM]⟩∧Below w.heap.size w w':=by
 have eg: ∀Q w,(callFunc 58 Q).run prog w= .ok (.enter 58 Q) w:=enters_of func58 (by kernel_rfl) rfl;have HV:=hid hv;have U:=hid hn;have HS:=hid hs;have H0:=hid h0;have C9:=hid (fun X (hW:Below w.heap.size w X)=>CL.belowB h6 hW);obtain⟨vf,vg,ag,vc,vl,rfl,⟨lf,lg,aG⟩,lc,ll⟩:=hv
 simp only at lf lg aG lc ll HV U⊢;obtain⟨fa,fc,rfl,_⟩:=lf
 obtain⟨ga,gc,rfl,_⟩:=lg
 obtain⟨sa,sc,rfl,_⟩:=aG
 obtain⟨xa,xc,rfl⟩:=lc.shape
 obtain⟨ya,yc,rfl⟩:=ll.shape
 simp only[List.length_nil,List.length_singleton]at HV U⊢;clear lc ll hn hs h0 CL;obtain⟨G,E⟩: ∃X,X=w.alloc (.cells #[.slice fa H.fos.length fc,.slice ga H.gs.length gc,.slice sa H.ss.length sc,.int .i64 H.nx,.int .i64 H.la,.int .i64 H.ro,.int .i64 H.now,.slice xa 1 xc,.slice ya 0 yc] 32):=⟨_,rfl⟩
 obtain⟨I,F⟩: ∃X,X=G.alloc (.cells #[.int .i64 2,.int .i64 0,.int .i64 0,.string ⟨#[]⟩,.string ⟨#[]⟩,.string ⟨#[]⟩,.int .i64 0,.int .i64 0,.string ⟨#[]⟩,.string ⟨#[]⟩,.string ⟨#[]⟩,.string ⟨#[]⟩,.string ⟨#[]⟩,.int .i64 0,.int .i64 0,.int .i64 0,.slice none 0 0] 59):=⟨_,rfl⟩
 obtain⟨S,P⟩: ∃X,X=I.alloc (.cells #[.slice none 0 0,.slice none 0 0,.slice none 0 0,.int .i64 0,.int .i64 0,.int .i64 0,.int .i64 0,.slice none 0 0,.slice none 0 0] 32):=⟨_,rfl⟩
 have C5:G.heap.size=w.heap.size+1:=by rw[E];simp
 have CM:I.heap.size=w.heap.size+1+1:=by rw[F];simp[C5]
 have ba:Below w.heap.size w G:=by rw[E];exact(Below.refl _ _).alloc (Nat.le_refl _) _
 have bb:Below G.heap.size G I:=by rw[F];exact(Below.refl _ _).alloc (Nat.le_refl _) _
 have bz:Below I.heap.size I S:=by rw[P];exact(Below.refl _ _).alloc (Nat.le_refl _) _
 have Z:Below w.heap.size w S:=af (af ba bb) bz;have K:=hid (((show Cs G w.heap.size [.slice fa H.fos.length fc,.slice ga H.gs.length gc,.slice sa H.ss.length sc,.int .i64 H.nx,.int .i64 H.la,.int .i64 H.ro,.int .i64 H.now,.slice xa 1 xc,.slice ya 0 yc] by rw[E];exact Cs.new w [.slice fa H.fos.length fc,.slice ga H.gs.length gc,.slice sa H.ss.length sc,.int .i64 H.nx,.int .i64 H.la,.int .i64 H.ro,.int .i64 H.now,.slice xa 1 xc,.slice ya 0 yc] _).below bb).below bz);have HE:=hid ((show Cs I (w.heap.size+1) [.int .i64 2,.int .i64 0,.int .i64 0,.string ⟨#[]⟩,.string ⟨#[]⟩,.string ⟨#[]⟩,.int .i64 0,.int .i64 0,.string ⟨#[]⟩,.string ⟨#[]⟩,.string ⟨#[]⟩,.string ⟨#[]⟩,.string ⟨#[]⟩,.int .i64 0,.int .i64 0,.int .i64 0,.slice none 0 0] by rw[←C5,F];exact Cs.new G [.int .i64 2,.int .i64 0,.int .i64 0,.string ⟨#[]⟩,.string ⟨#[]⟩,.string ⟨#[]⟩,.int .i64 0,.int .i64 0,.string ⟨#[]⟩,.string ⟨#[]⟩,.string ⟨#[]⟩,.string ⟨#[]⟩,.string ⟨#[]⟩,.int .i64 0,.int .i64 0,.int .i64 0,.slice none 0 0] _).below bz);have HR:=hid (show Cs S (w.heap.size+1+1) [.slice none 0 0,.slice none 0 0,.slice none 0 0,.int .i64 0,.int .i64 0,.int .i64 0,.int .i64 0,.slice none 0 0,.slice none 0 0] by rw[←CM,P];exact Cs.new I [.slice none 0 0,.slice none 0 0,.slice none 0 0,.int .i64 0,.int .i64 0,.int .i64 0,.int .i64 0,.slice none 0 0,.slice none 0 0] _);have CC:=hid (show((w.alloc (.cells #[.slice fa H.fos.length fc,.slice ga H.gs.length gc,.slice sa H.ss.length sc,.int .i64 H.nx,.int .i64 H.la,.int .i64 H.ro,.int .i64 H.now,.slice xa 1 xc,.slice ya 0 yc] 32)).alloc (.cells #[.int .i64 2,.int .i64 0,.int .i64 0,.string ⟨#[]⟩,.string ⟨#[]⟩,.string ⟨#[]⟩,.int .i64 0,.int .i64 0,.string ⟨#[]⟩,.string ⟨#[]⟩,.string ⟨#[]⟩,.string ⟨#[]⟩,.string ⟨#[]⟩,.int .i64 0,.int .i64 0,.int .i64 0,.slice none 0 0] 59)).alloc (.cells #[.slice none 0 0,.slice none 0 0,.slice none 0 0,.int .i64 0,.int .i64 0,.int .i64 0,.int .i64 0,.slice none 0 0,.slice none 0 0] 32)=S by rw[P,F,E]);have Dc:w.heap.size+1+1<S.heap.size:=HR.out.lt;clear E F P ba bb bz C5 CM;go_enter func11,ntmps11
 go_upto_region 1 with fail;rw[CC.out];clear CC;have p0:=K.out.cell 0 rfl;have p1:=K.out.cell 1 rfl;have p2:=K.out.cell 2 rfl;have p3:=K.out.cell 3 rfl;have p4:=K.out.cell 4 rfl;have p5:=K.out.cell 5 rfl;have p6:=K.out.cell 6 rfl;have p7:=K.out.cell 7 rfl;have p8:=K.out.cell 8 rfl;go_wp2_with fail;refine(oH td ⟨H,[aH],[]⟩ _ S (HV.out.below Z) HS.out (fun x hx=>by cases hx) (by omega) (C9.out S Z)).mono ?_
 rintro e w1 ⟨hp,N⟩;have CF:=af Z N;clear p0 p1 p2 p3 p4 p5 p6 p7 p8;rcases hp with⟨h,_⟩|⟨_,rfl,fb,fd,gb,gd,sb,sd,xb,xd,yb,yd,hR,hO,hN⟩
 · exact absurd H0.out h
 have CD:=hN U.out;simp only[List.length_nil,List.length_singleton,Value.slice.injEq,true_and]at hR hO CD;obtain⟨rfl,rfl⟩:=CD
 obtain⟨g,o,rfl,CY,CZ,CJ⟩:=hO.cl0
 obtain⟨pb,C4⟩: ∃x,x=S.heap.size+1:=⟨_,rfl⟩
 rw[←C4]at hR⊢;have CE:dJ (pb+1) w1 (.agg #[.slice fb H.fos.length fd,.slice gb H.gs.length gd,.slice sb H.ss.length sd,.int .i64 H.nx,.int .i64 H.la,.int .i64 H.ro,.int .i64 H.now,.slice (some ⟨g,o,none⟩) 1 xd,.slice none 0 0]) ⟨H,[aH],[]⟩:=by rw[C4];exact hO
 have Dd:pb<g:=by omega
 have Df:w.heap.size+1+1<pb:=by omega
 have C8:=hid hR;have C6:=hid CE;have CN:=hid CJ;have T:=hid (HE.out.below N);have CX:=T.out.lt;have j0:=T.out.cell 0 rfl;clear hN hR hO CE CJ CY C4;go_wp2_with fail
 go_region_held3 (fun W=>W.cell? ⟨w.heap.size+1,0,none⟩=some (.int .i64 2)) (go_keep) (first
  |(go_at_call 24;refine(Be ⟨pb,0,none⟩ _).mono ?_;rintro e wa ⟨mb,rfl,hM,CW⟩;have z:Below w1.heap.size w1 wa:=((Below.refl _ _).drew).trans CW;have aQ:=(z.cell (p:=⟨w.heap.size+1,0,none⟩) CX).trans j0;have D3:=B6 hM))
 have A:=af CF z;have CU:=hid (C9.out wa A);have CV:5<wa.heap.size:=by have:=A.size;omega
 have f:=hid (T.out.below z);have C7:=hid (C8.out.below z);have CO:=hid (CN.out.below CZ z);have CK:g<wa.heap.size:=by have:=z.size;omega
 clear j0 aQ D3 hM;have k0:=f.out.cell 0 rfl;have k1:=f.out.cell 1 rfl;have k2:=f.out.cell 2 rfl;have k3:=f.out.cell 3 rfl;have k4:=f.out.cell 4 rfl;have k5:=f.out.cell 5 rfl;have k6:=f.out.cell 6 rfl;have k7:=f.out.cell 7 rfl;have k8:=f.out.cell 8 rfl;have k9:=f.out.cell 9 rfl;have D5:=f.out.cell 10 rfl;have D6:=f.out.cell 11 rfl;have D7:=f.out.cell 12 rfl;have D8:=f.out.cell 13 rfl;have D9:=f.out.cell 14 rfl;have Da:=f.out.cell 15 rfl;have Db:=f.out.cell 16 rfl;go_wp2_with fail;refine(B5 pb g o xd _ _ _ _ _ _ _ wa C7.out CK (by omega) CO.out CV CU.out).mono ?_
 rintro e w2 ⟨rfl,C3,va,M,Y,V⟩;clear k0 k1 k2 k3 k4 k5 k6 k7 k8 k9 D5 D6 D7 D8 D9 Da Db;obtain⟨yb,yd,rfl,_⟩:=id M
 simp only[List.length_singleton]at M Y V;have CP:=hid M;have CT:=hid Y;have j:=hid V;have De:w.heap.size≤pb:=by omega
 have CG:Below w.heap.size w w2:=A.grown C3 (Nat.le_of_lt (by have:=A.size;omega)) (fun k hk=>by injection hk with hk;omega);have CR:=hid ((C6.out.below z).nbo C3 (by omega));have d:=hid (((HR.out.below N).below z).nb C3 (by omega));clear M Y V C8 C7 C6;have y0:=j.out.cell 0 rfl;have y1:=j.out.cell 1 rfl;have y2:=j.out.cell 2 rfl;have y3:=j.out.cell 3 rfl;have y4:=j.out.cell 4 rfl;have y5:=j.out.cell 5 rfl;have y6:=j.out.cell 6 rfl;have y7:=j.out.cell 7 rfl;have y8:=j.out.cell 8 rfl;have r0:=d.out.cell 0 rfl;have r1:=d.out.cell 1 rfl;have r2:=d.out.cell 2 rfl;have r3:=d.out.cell 3 rfl;have r4:=d.out.cell 4 rfl;have r5:=d.out.cell 5 rfl;have r6:=d.out.cell 6 rfl;have r7:=d.out.cell 7 rfl;have r8:=d.out.cell 8 rfl;have f0:=d.out.fr 0;have f1:=d.out.fr 1;have f2:=d.out.fr 2;have f3:=d.out.fr 3;have f4:=d.out.fr 4;have f5:=d.out.fr 5;have f6:=d.out.fr 6;have f7:=d.out.fr 7;have f8:=d.out.fr 8;obtain⟨w3,O⟩: ∃X,X=(((((((((w2.setCell ⟨(w.heap.size+1+1),0,none⟩ (.slice fb H.fos.length fd)).setCell ⟨(w.heap.size+1+1),1,none⟩ (.slice gb H.gs.length gd)).setCell ⟨(w.heap.size+1+1),2,none⟩ (.slice sb H.ss.length sd)).setCell ⟨(w.heap.size+1+1),3,none⟩ (.int .i64 H.nx)).setCell ⟨(w.heap.size+1+1),4,none⟩ (.int .i64 H.la)).setCell ⟨(w.heap.size+1+1),5,none⟩ (.int .i64 H.ro)).setCell ⟨(w.heap.size+1+1),6,none⟩ (.int .i64 H.now)).setCell ⟨(w.heap.size+1+1),7,none⟩ (.slice (some ⟨g,o,none⟩) 1 xd)).setCell ⟨(w.heap.size+1+1),8,none⟩ (.slice yb 1 yd)):=⟨_,rfl⟩
 have J:=jh d.out (.slice fb H.fos.length fd) (.slice gb H.gs.length gd) (.slice sb H.ss.length sd) (.int .i64 H.nx) (.int .i64 H.la) (.int .i64 H.ro) (.int .i64 H.now) (.slice (some ⟨g,o,none⟩) 1 xd) (.slice yb 1 yd);rw[←O]at J;have y:=hid J.1;have CS:=hid (CR.out.nbo J.2 (by omega))
 have D4: ∀b,(Value.slice yb 1 yd).ownBlock=some b→b≠w.heap.size+1+1:=fun b hb=>by
  have:=(CT.out b hb).1
  have:=A.size
  have:=z.size
  have:=N.size
  omega
 have CQ:=hid (CP.out.nbo J.2 D4);have CH:=CG;have CI:Below w.heap.size w w3:=by rw[O];exact(((((((((CH.setCell (p:=⟨w.heap.size+1+1,0,none⟩) (by show w.heap.size≤w.heap.size+1+1;omega) _).setCell (p:=⟨w.heap.size+1+1,1,none⟩) (by show w.heap.size≤w.heap.size+1+1;omega) _).setCell (p:=⟨w.heap.size+1+1,2,none⟩) (by show w.heap.size≤w.heap.size+1+1;omega) _).setCell (p:=⟨w.heap.size+1+1,3,none⟩) (by show w.heap.size≤w.heap.size+1+1;omega) _).setCell (p:=⟨w.heap.size+1+1,4,none⟩) (by show w.heap.size≤w.heap.size+1+1;omega) _).setCell (p:=⟨w.heap.size+1+1,5,none⟩) (by show w.heap.size≤w.heap.size+1+1;omega) _).setCell (p:=⟨w.heap.size+1+1,6,none⟩) (by show w.heap.size≤w.heap.size+1+1;omega) _).setCell (p:=⟨w.heap.size+1+1,7,none⟩) (by show w.heap.size≤w.heap.size+1+1;omega) _).setCell (p:=⟨w.heap.size+1+1,8,none⟩) (by show w.heap.size≤w.heap.size+1+1;omega) _)
 go_wp2_with fail;rw[←O];clear O J y0 y1 y2 y3 y4 y5 y6 y7 y8 r0 r1 r2 r3 r4 r5 r6 r7 r8 f0 f1 f2 f3 f4 f5 f6 f7 f8;have z0:=y.out.cell 0 rfl;have z1:=y.out.cell 1 rfl;have z2:=y.out.cell 2 rfl;have z3:=y.out.cell 3 rfl;have z4:=y.out.cell 4 rfl;have z5:=y.out.cell 5 rfl;have z6:=y.out.cell 6 rfl;have z7:=y.out.cell 7 rfl;have z8:=y.out.cell 8 rfl;refine bodyPost_ret (v:= .tuple #[.agg #[.slice fb H.fos.length fd,.slice gb H.gs.length gd,.slice sb H.ss.length sd,.int .i64 H.nx,.int .i64 H.la,.int .i64 H.ro,.int .i64 H.now,.slice (some ⟨g,o,none⟩) 1 xd,.slice yb 1 yd],.int .i64 0]) (by simp[results,results11,go_sem,z0,z1,z2,z3,z4,z5,z6,z7,z8]) rfl ⟨_,rfl,?_,CI⟩
 obtain⟨vf,vg,ag,vc,vl,e,⟨h1,h2,h3⟩,h4,h5⟩:=CS.out.lies
 simp only[Value.agg.injEq]at e;have g0:=congrArg (fun a=>a.getD 0 .nilFunc) e;have g1:=congrArg (fun a=>a.getD 1 .nilFunc) e;have g2:=congrArg (fun a=>a.getD 2 .nilFunc) e;have g7:=congrArg (fun a=>a.getD 7 .nilFunc) e;simp at g0 g1 g2 g7
 subst g0 g1 g2 g7;exact⟨_,_,_,_,_,rfl,⟨h1,h2,h3⟩,h4,iF.2 CQ.out⟩
theorem B8:kp [] ⟨#[102]⟩ ⟨#[97]⟩=0:=by decide+kernel
theorem B9 (b:Nat) (p0 p2 p3 p4 p5 p6 p7 p8:Value) (F:Option Addr) (G:Nat) (S T Q:Value) (w:World) (O:Cs w b [p0,.slice F 0 G,p2,p3,p4,p5,p6,p7,p8]) (P:bt w (.slice F 0 G) []) (Y:aj w S aH.base) (Z:aj w T aH.mine) (l3:bk w Q aH.ask):
    Calls prog 25 #[.pointer (some ⟨b,0,none⟩),.agg #[.string ⟨#[97]⟩,.string ⟨#[102]⟩,S,.int .i64 0,T,.string ⟨#[]⟩,Q,.int .i64 0]] w fun e w'=>e= .returned (.bool true)∧Below w.heap.size w w':=by
 obtain⟨A,E,rfl,_⟩:=Y
 obtain⟨na,J,rfl,_⟩:=Z
 obtain⟨K,M,rfl,_⟩:=l3
 simp only[aH,ey,List.length_nil];obtain⟨j,a⟩: ∃j,j=w.alloc (.cells #[.string ⟨#[97]⟩,.string ⟨#[102]⟩,.slice A 0 E,.int .i64 0,.slice na 0 J,.string ⟨#[]⟩,.slice K 0 M,.int .i64 0] 50):=⟨_,rfl⟩
 have f:Below w.heap.size w j:=by rw[a];exact(Below.refl _ _).alloc (Nat.le_refl _) _
 have z:=hid (show Cs j w.heap.size [.string ⟨#[97]⟩,.string ⟨#[102]⟩,.slice A 0 E,.int .i64 0,.slice na 0 J,.string ⟨#[]⟩,.slice K 0 M,.int .i64 0] by rw[a];exact Cs.new w [.string ⟨#[97]⟩,.string ⟨#[102]⟩,.slice A 0 E,.int .i64 0,.slice na 0 J,.string ⟨#[]⟩,.slice K 0 M,.int .i64 0] _);have N:=hid (O.below f);have U:=hid (P.below f);have y:=z.out.lt;have I:=N.out.lt;have x0:=z.out.cell 0 rfl;have aD:=z.out.cell 1 rfl;have V:=N.out.cell 1 rfl;have o:=hid a.symm;clear a O P;go_enter func25,ntmps25
 go_upto_region 1 with fail;rw[o.out];clear o;go_wp2_with fail
 go_region_held3 (fun W=>W.cell? ⟨w.heap.size,0,none⟩=some (.string ⟨#[97]⟩)∧W.cell? ⟨w.heap.size,1,none⟩=some (.string ⟨#[102]⟩)∧W.cell? ⟨b,1,none⟩=some (.slice F 0 G)) (go_keep) (first
  |(go_at_call 66;refine(wZ [] _ ⟨#[102]⟩ ⟨#[97]⟩ _ (U.out.below (Below.refl _ _).drew) (fun x X=>by cases X) (by decide) (by decide)).mono ?_;rintro e wa ⟨rfl,H⟩;rw[B8];have d:Below j.heap.size j wa:=((Below.refl _ _).drew).trans H;have j0:=(d.cell (p:=⟨w.heap.size,0,none⟩) y).trans x0;have j1:=(d.cell (p:=⟨w.heap.size,1,none⟩) y).trans aD;have j2:=(d.cell (p:=⟨b,1,none⟩) I).trans V))
 have u:=af f d;go_wp2_with fail;go_ret;exact⟨rfl,u⟩
theorem Ca (td:ByteArray→Int) (H:Hb) (F:H.gs=[]) (v:Value) (w:World) (hv:di w v ⟨H,[aH],[dM]⟩) (hs:iD ⟨H,[aH],[dM]⟩) (h0:bU td ⟨H,[aH],[dM]⟩=0) (h6:5<w.heap.size) (U:aR w):
    Calls prog 12 #[v] w fun e w'=>e= .returned (.tuple #[.bool true,.int .i64 0])∧Below w.heap.size w w':=by
 have HV:=hid hv;have HS:=hid hs;have H0:=hid h0;have I:=hid F;have C6:=hid (fun X (hW:Below w.heap.size w X)=>U.belowB h6 hW);obtain⟨vf,vg,ag,vc,vl,rfl,⟨lf,lg,aG⟩,lc,ll⟩:=hv
 simp only at lf lg aG lc ll HV⊢;obtain⟨fa,fc,rfl,_⟩:=lf
 obtain⟨ga,gc,rfl,_⟩:=lg
 obtain⟨sa,sc,rfl,_⟩:=aG
 obtain⟨xa,xc,rfl⟩:=lc.shape
 obtain⟨ya,yc,rfl⟩:=ll.shape
 simp only[List.length_nil,List.length_singleton,F]at HV⊢;clear lc ll hs h0 U F;obtain⟨G,z⟩: ∃X,X=w.alloc (.cells #[.slice fa H.fos.length fc,.slice ga 0 gc,.slice sa H.ss.length sc,.int .i64 H.nx,.int .i64 H.la,.int .i64 H.ro,.int .i64 H.now,.slice xa 1 xc,.slice ya 1 yc] 32):=⟨_,rfl⟩
 have E:Below w.heap.size w G:=by rw[z];exact(Below.refl _ _).alloc (Nat.le_refl _) _
 have j:=hid (show Cs G w.heap.size [.slice fa H.fos.length fc,.slice ga 0 gc,.slice sa H.ss.length sc,.int .i64 H.nx,.int .i64 H.la,.int .i64 H.ro,.int .i64 H.now,.slice xa 1 xc,.slice ya 1 yc] by rw[z];exact Cs.new w [.slice fa H.fos.length fc,.slice ga 0 gc,.slice sa H.ss.length sc,.int .i64 H.nx,.int .i64 H.la,.int .i64 H.ro,.int .i64 H.now,.slice xa 1 xc,.slice ya 1 yc] _);have N:=hid z.symm;have CE:w.heap.size<G.heap.size:=j.out.lt;clear z;have p0:=j.out.cell 0 rfl;have p1:=j.out.cell 1 rfl;have p2:=j.out.cell 2 rfl;have p3:=j.out.cell 3 rfl;have p4:=j.out.cell 4 rfl;have p5:=j.out.cell 5 rfl;have p6:=j.out.cell 6 rfl;have p7:=j.out.cell 7 rfl;have p8:=j.out.cell 8 rfl;go_enter func12,ntmps12
 go_upto_region 1 with fail;rw[N.out];clear N;go_wp2_with fail;refine(oH td ⟨H,[aH],[dM]⟩ _ G (HV.out.below E) HS.out (fun x hx=>by simp only[List.mem_singleton]at hx;subst hx;intro h;cases h) (by omega) (C6.out G E)).mono ?_
 rintro e w1 ⟨hp,C7⟩;have O:=af E C7;clear p0 p1 p2 p3 p4 p5 p6 p7 p8;rcases hp with⟨h,_⟩|⟨_,rfl,fb,fd,gb,gd,sb,sd,xb,xd,yb,yd,Y,V,_⟩
 · exact absurd H0.out h
 simp only[List.length_nil,List.length_singleton,I.out]at Y V;obtain⟨g,o,rfl,C9,CC,S⟩:=V.cl0
 obtain⟨pb,T⟩: ∃x,x=G.heap.size+1:=⟨_,rfl⟩
 rw[←T]at Y⊢;clear T;have HR:=hid Y;have Z:=hid S
 have C4:=hid (show bt w1 (.slice gb 0 gd) [] by
  obtain⟨vf,vg,ag,vc,vl,e,⟨_,h2,_⟩,_⟩:=V.lies
  simp only[Value.agg.injEq]at e;have g1:=congrArg (fun a=>a.getD 1 .nilFunc) e;simp at g1
  rw[g1];have:=I.out
  simp only at h2;rw[this]at h2;exact h2)
 have q7:=HR.out.cell 7 rfl;clear Y V S C9;go_wp2_with fail;go_loopw [22] (fun i wr=> ∃k:Nat,k≤1∧i= .int .i64 k∧Below w1.heap.size w1 wr) (fun i _=>1-(intOf i).toNat)
 case atStart=>exact⟨0,by decide,rfl,Below.refl _ _⟩
 case round=>
  obtain⟨k,hk,rfl,f⟩:=hrel
  have P:=af O f;clear q7;by_cases CD:k=0
  · subst CD
    obtain⟨vb,vm,va,c0,c1,c2,c3,c4,c5,c6,c7,l1,l2,l3⟩:=Z.out.below CC f
    have J:=hid l1;have K:=hid l2;have M:=hid l3;obtain⟨ea,ec,rfl,_⟩:=l1
    obtain⟨na,nc,rfl,_⟩:=l2
    obtain⟨qa,qc,rfl,_⟩:=l3
    simp only[aH,ey,List.length_nil]at c0 c1 c2 c3 c4 c5 c6 c7 J K M;obtain⟨w2,y⟩: ∃X,X=wr.alloc (.cells #[.string ⟨#[97]⟩,.string ⟨#[102]⟩,.slice ea 0 ec,.int .i64 0,.slice na 0 nc,.string ⟨#[]⟩,.slice qa 0 qc,.int .i64 0] 50):=⟨_,rfl⟩
    have u:Below wr.heap.size wr w2:=by rw[y];exact(Below.refl _ _).alloc (Nat.le_refl _) _
    have A:=hid (show Cs w2 wr.heap.size [.string ⟨#[97]⟩,.string ⟨#[102]⟩,.slice ea 0 ec,.int .i64 0,.slice na 0 nc,.string ⟨#[]⟩,.slice qa 0 qc,.int .i64 0] by rw[y];exact Cs.new wr [.string ⟨#[97]⟩,.string ⟨#[102]⟩,.slice ea 0 ec,.int .i64 0,.slice na 0 nc,.string ⟨#[]⟩,.slice qa 0 qc,.int .i64 0] _);have d:=af f u;have C5:=hid (HR.out.below d);have C3:=hid (C4.out.below d);go_upto_region 7 with fail;try simp only[World.setCell_alloc_new]
    rw[←y];clear y c0 c1 c2 c3 c4 c5 c6 c7;have d0:=A.out.cell 0 rfl;have d1:=A.out.cell 1 rfl;have d2:=A.out.cell 2 rfl;have d3:=A.out.cell 3 rfl;have d4:=A.out.cell 4 rfl;have d5:=A.out.cell 5 rfl;have d6:=A.out.cell 6 rfl;have d7:=A.out.cell 7 rfl;go_wp2_with fail;refine(B9 pb _ _ _ _ _ _ _ _ gb gd _ _ _ w2 C5.out C3.out (J.out.below u) (K.out.below u) (M.out.below u)).mono ?_
    rintro e w3 ⟨rfl,C8⟩;have Q:=af d C8;clear d0 d1 d2 d3 d4 d5 d6 d7;go_wp2_with fail;go_roundw
    case rel=>exact⟨1,by decide,by simp,Q⟩
    case measure=>simp[intOf]
  · obtain rfl:k=1:=by omega
    go_wp2_with fail;go_ret2;exact⟨rfl,P⟩
def fH:ByteArray→Int:=fun _=>0
theorem Cb:bU fH ⟨Hu.b1,[aH],[]⟩=0:=by
 have a:bY [aH]=0:=by rw[bY,if_neg (fun x=>x jN),bY]
 rw[bU,if_neg (fun x=>x mi),if_neg (by simp),if_neg (by rw[dH,if_neg (fun x=>x a)];decide+kernel)];rfl
theorem Cc:kL ⟨cI.toArray⟩=0:=by
 rw[kL];rw[show(⟨cI.toArray⟩:ByteArray).data.toList=cI from rfl,Bv];rfl
theorem Cd:bU fH ⟨Hu.b1,[aH],[dM]⟩=0:=by
 have a:bY [aH]=0:=by rw[bY,if_neg (fun x=>x jN),bY]
 rw[bU,if_neg (fun x=>x mi),if_neg (by simp),if_neg (by rw[dH,if_neg (fun x=>x a)];decide+kernel)]
 have d:dj fH [aH].length dM=0:=by
  rw[dj,if_neg (by simp[dM]),if_neg (by simp[dM]),lW,if_neg (by simp[dM])];exact Cc
 show dL fH [aH].length [dM]=0
 rw[dL,if_neg (fun x=>x d),dL]
theorem Ce:iD ⟨Hu.b1,[aH],[]⟩:=⟨sV,fun c a=>by
 simp only[List.mem_singleton]at a;subst a;exact oF,fun x d=>by cases d⟩
theorem Cf:iD ⟨Hu.b1,[aH],[dM]⟩:=⟨sV,fun c a=>by
 simp only[List.mem_singleton]at a;subst a;exact oF,fun x d=>by
 simp only[List.mem_singleton]at d;subst d;decide⟩
theorem en.nb {W j:World} {b o:Nat} {c:Cn} {g:Nat} (h:en W b o c) (hb:b<W.heap.size) (d:W.grownBy j (some g)) (a:cy W g):en j b o c:=by
 obtain⟨N,O,M,u,y,z,A,E,F,G,H,I,J,K⟩:=h
 have f:b≠g:=fun e=>a _ _ (e▸u)
 have k:=fw d hb f;exact⟨N,O,M,(k _).trans u,(k _).trans y,(k _).trans z,(k _).trans A,(k _).trans E,(k _).trans F,(k _).trans G,(k _).trans H,I.nb d a,J.nb d a,K.nb d a⟩
theorem dh.nb {W e:World} {v:Value} {l:List Cn} {g:Nat} (h:dh W v l) (f:W.grownBy e (some g)) (F:cy W g):dh e v l:=by
 obtain⟨a,d,G,j,u,y⟩:=h
 refine⟨a,d,G,j,u,fun i E=>?_⟩
 obtain⟨b,o,z,hb,A⟩:=y i E
 exact⟨b,o,z,Nat.lt_of_lt_of_le hb f.size,A.nb hb f F⟩
theorem fg.nb {W u:World} {v:Value} {l:List Lr} {g:Nat} (h:fg W v l) (y:W.grownBy u (some g)) (H:cy W g):fg u v l:=by
 obtain⟨a,f,I,z,A,E⟩:=h
 refine⟨a,f,I,z,A,fun i G=>?_⟩
 obtain⟨b,o,F,hb,d⟩:=E i G
 have j:b≠g:=fun e=>H _ _ (e▸d.2.2.2)
 have k:=fw y hb j;exact⟨b,o,F,Nat.lt_of_lt_of_le hb y.size,(k _).trans d.1,(k _).trans d.2.1,(k _).trans d.2.2.1,(k _).trans d.2.2.2⟩
theorem Cg {W u:World} {v:Value} {X:Wd} {g:Nat} {x y z c l:Option Addr} {a b d e f h c1 c2 M N:Nat} {O P Q S:Int} (I:di W v X) (o:W.grownBy u (some g)) (J:Cs W g [.slice x a b,.slice y d e,.slice z f h,.int .i64 O,.int .i64 P,.int .i64 Q,.int .i64 S,.slice c c1 c2,.slice l M N]):di u v X:=by
 have j:cy W g:=J.noStr (fun s K=>by simp at K);obtain⟨U,V,ag,T,Y,e,⟨A,E,F⟩,G,H⟩:=I
 exact⟨U,V,ag,T,Y,e,⟨A.nb o j,E.nb o j,F.nb o j⟩,G.nb o j,H.nb o j⟩
theorem Ci (w:World) (h6:5<w.heap.size) (CO:aR w):
    Calls prog 5 #[] w fun e w'=>e= .returned (.bool true)∧Below w.heap.size w w':=by
 have C3:=hid (fun X (hW:Below w.heap.size w X)=>CO.belowB h6 hW);obtain⟨H,hH⟩: ∃H,H=Hu.b1:=⟨_,rfl⟩
 have CV:=hid (show iI 10 1000=H by rw[hH];exact BC);have CP:=hid (show H.gs=[] by rw[hH];rfl);have C4:=hid (show bU fH ⟨H,[aH],[]⟩=0 by rw[hH];exact Cb);have D3:=hid (show bU fH ⟨H,[aH],[dM]⟩=0 by rw[hH];exact Cd);have Z:=hid (show iD ⟨H,[aH],[]⟩ by rw[hH];exact Ce);have CW:=hid (show iD ⟨H,[aH],[dM]⟩ by rw[hH];exact Cf);clear hH CO;go_enter func5,ntmps5
 go_wp2_with fail;refine(AL 10 1000 _).mono ?_
 rintro e w1 ⟨u,rfl,hl,D7⟩;rw[sU];rw[CV.out]at hl;have CQ:=hid hl;obtain⟨fa,fc,ga,gc,sa,sc,rfl⟩:=hl.shape
 clear hl;obtain⟨w2,J⟩: ∃X,X=w1.alloc (.cells #[.slice fa H.fos.length fc,.slice ga H.gs.length gc,.slice sa H.ss.length sc,.int .i64 H.nx,.int .i64 H.la,.int .i64 H.ro,.int .i64 H.now] 28):=⟨_,rfl⟩
 have CG:Below w1.heap.size w1 w2:=by rw[J];exact(Below.refl _ _).alloc (Nat.le_refl _) _
 have HX:=hid (show Cs w2 w1.heap.size [.slice fa H.fos.length fc,.slice ga H.gs.length gc,.slice sa H.ss.length sc,.int .i64 H.nx,.int .i64 H.la,.int .i64 H.ro,.int .i64 H.now] by rw[J];exact Cs.new w1 [.slice fa H.fos.length fc,.slice ga H.gs.length gc,.slice sa H.ss.length sc,.int .i64 H.nx,.int .i64 H.la,.int .i64 H.ro,.int .i64 H.now] _);have CD:=af D7 CG;go_upto_region 2 with fail;try simp only[World.setCell_alloc_new]
 rw[←J];clear J;go_wp2_with fail;refine(vR ⟨#[97]⟩ ⟨#[102]⟩ w2 (by decide) (by decide)).mono ?_
 rintro e w3 ⟨u3,rfl,C5,D8⟩;have CN:Cy.ok (ey ⟨#[97]⟩ ⟨#[102]⟩)=aH:=qD jN;have CK:aU (ey ⟨#[97]⟩ ⟨#[102]⟩)=0:=jN;rw[CK];rw[CN]at C5;clear CN CK;have CC:=C5.lies;have C9:=hid CC;obtain⟨vb,vm,va,rfl,l1,l2,l3⟩:=CC
 obtain⟨ea,ec,rfl,_⟩:=l1
 obtain⟨na,nc,rfl,_⟩:=l2
 obtain⟨qa,qc,rfl,_⟩:=l3
 simp only[aH,ey,List.length_nil]at C9⊢;clear C5;obtain⟨T,K⟩: ∃X,X=w3.alloc (.cells #[.string ⟨#[97]⟩,.string ⟨#[102]⟩,.slice ea 0 ec,.int .i64 0,.slice na 0 nc,.string ⟨#[]⟩,.slice qa 0 qc,.int .i64 0] 50):=⟨_,rfl⟩
 have CH:Below w3.heap.size w3 T:=by rw[K];exact(Below.refl _ _).alloc (Nat.le_refl _) _
 have P:=hid (show Cs T w3.heap.size [.string ⟨#[97]⟩,.string ⟨#[102]⟩,.slice ea 0 ec,.int .i64 0,.slice na 0 nc,.string ⟨#[]⟩,.slice qa 0 qc,.int .i64 0] by rw[K];exact Cs.new w3 [.string ⟨#[97]⟩,.string ⟨#[102]⟩,.slice ea 0 ec,.int .i64 0,.slice na 0 nc,.string ⟨#[]⟩,.slice qa 0 qc,.int .i64 0] _);have E:=af D8 CH;have CE:=af CD E;have o:=hid (HX.out.below E);have x0:=o.out.cell 0 rfl;have aD:=o.out.cell 1 rfl;have x2:=o.out.cell 2 rfl;have x3:=o.out.cell 3 rfl;have x4:=o.out.cell 4 rfl;have x5:=o.out.cell 5 rfl;have x6:=o.out.cell 6 rfl;have c0:=P.out.cell 0 rfl;have c1:=P.out.cell 1 rfl;have c2:=P.out.cell 2 rfl;have c3:=P.out.cell 3 rfl;have c4:=P.out.cell 4 rfl;have c5:=P.out.cell 5 rfl;have c6:=P.out.cell 6 rfl;have c7:=P.out.cell 7 rfl;go_upto_region 3 with fail;try simp only[World.setCell_alloc_new]
 rw[←K];clear K;obtain⟨w5,M⟩: ∃X,X=T.alloc (.cells #[.string ⟨#[97]⟩,.string ⟨#[102]⟩,.slice ea 0 ec,.int .i64 0,.slice na 0 nc,.string ⟨#[]⟩,.slice qa 0 qc,.int .i64 0] 50):=⟨_,rfl⟩
 have C7:Below T.heap.size T w5:=by rw[M];exact(Below.refl _ _).alloc (Nat.le_refl _) _
 have G:=hid (show Cs w5 T.heap.size [.string ⟨#[97]⟩,.string ⟨#[102]⟩,.slice ea 0 ec,.int .i64 0,.slice na 0 nc,.string ⟨#[]⟩,.slice qa 0 qc,.int .i64 0] by rw[M];exact Cs.new T [.string ⟨#[97]⟩,.string ⟨#[102]⟩,.slice ea 0 ec,.int .i64 0,.slice na 0 nc,.string ⟨#[]⟩,.slice qa 0 qc,.int .i64 0] _);have y:=af CE C7;have CT:=hid ((CQ.out.below (af CG E)).below C7);have CU:=hid ((C9.out.below CH).below C7)
 have CS:=hid (show dh w5 (.slice (some ⟨T.heap.size,0,none⟩) 1 1) [aH]from⟨_,_,rfl,Nat.le_refl _,by simp,fun i hi=>by
  match i,hi with
  |0,_=>
   obtain⟨vb,vm,va,e,m1,m2,m3⟩:=CU.out
   simp only[Value.agg.injEq]at e;have g2:=congrArg (fun a=>a.getD 2 .nilFunc) e;have g4:=congrArg (fun a=>a.getD 4 .nilFunc) e;have g6:=congrArg (fun a=>a.getD 6 .nilFunc) e;simp at g2 g4 g6
   subst g2 g4 g6;exact⟨_,_,rfl,G.out.lt,_,_,_,G.out.cell 0 rfl,G.out.cell 1 rfl,G.out.cell 2 rfl,G.out.cell 3 rfl,G.out.cell 4 rfl,G.out.cell 5 rfl,G.out.cell 6 rfl,G.out.cell 7 rfl,m1,m2,m3⟩⟩)
 have CX:=hid (C3.out w5 y);have D4:5<w5.heap.size:=by have:=y.size;omega
 go_wp2_with fail;rw[←M];clear M x0 aD x2 x3 x4 x5 x6 c0 c1 c2 c3 c4 c5 c6 c7;refine(sK fH H [aH] _ _ w5 CT.out CS.out Z.out.hb Z.out.cls D4 CX.out).mono ?_
 rintro e f ⟨u6,rfl,C8,CM,D9⟩;rw[C4.out];rw[C4.out,ie,if_pos rfl]at C8;have Q:=af y D9;have U:=hid C8;have Y:=hid CM;obtain⟨vf,vg,ag,vc,vl,rfl,⟨lf,lg,aG⟩,lc,ll⟩:=C8
 simp only at lf lg aG lc ll U Y⊢;obtain⟨fb,fd,rfl,_⟩:=lf
 obtain⟨gb,gd,rfl,_⟩:=lg
 obtain⟨sb,sd,rfl,_⟩:=aG
 obtain⟨xb,xd,rfl⟩:=lc.shape
 obtain⟨yb,yd,rfl⟩:=ll.shape
 simp only[List.length_nil,List.length_singleton]at U Y⊢;clear lc ll CM;obtain⟨w7,N⟩: ∃X,X=f.alloc (.cells #[.slice fb H.fos.length fd,.slice gb H.gs.length gd,.slice sb H.ss.length sd,.int .i64 H.nx,.int .i64 H.la,.int .i64 H.ro,.int .i64 H.now,.slice xb 1 xd,.slice yb 0 yd] 32):=⟨_,rfl⟩
 have CI:Below f.heap.size f w7:=by rw[N];exact(Below.refl _ _).alloc (Nat.le_refl _) _
 have F:=hid (show Cs w7 f.heap.size [.slice fb H.fos.length fd,.slice gb H.gs.length gd,.slice sb H.ss.length sd,.int .i64 H.nx,.int .i64 H.la,.int .i64 H.ro,.int .i64 H.now,.slice xb 1 xd,.slice yb 0 yd] by rw[N];exact Cs.new f [.slice fb H.fos.length fd,.slice gb H.gs.length gd,.slice sb H.ss.length sd,.int .i64 H.nx,.int .i64 H.la,.int .i64 H.ro,.int .i64 H.now,.slice xb 1 xd,.slice yb 0 yd] _);have z:=af Q CI;have CY:=hid (C3.out w7 z);have D5:5<w7.heap.size:=by have:=z.size;omega
 go_upto_region 4 with fail;try simp only[World.setCell_alloc_new]
 rw[←N];clear N;have y0:=F.out.cell 0 rfl;have y1:=F.out.cell 1 rfl;have y2:=F.out.cell 2 rfl;have y3:=F.out.cell 3 rfl;have y4:=F.out.cell 4 rfl;have y5:=F.out.cell 5 rfl;have y6:=F.out.cell 6 rfl;have y7:=F.out.cell 7 rfl;have y8:=F.out.cell 8 rfl;go_wp2_with fail;refine(B7 fH H _ w7 (U.out.below CI) Y.out Z.out C4.out D5 CY.out).mono ?_
 rintro e w8 ⟨u8,rfl,CL,CJ⟩;clear y0 y1 y2 y3 y4 y5 y6 y7 y8;have CF:=af z CJ;have V:=hid CL;obtain⟨vf,vg,ag,vc,vl,rfl,⟨lf,lg,aG⟩,lc,ll⟩:=CL
 simp only at lf lg aG lc ll V⊢;obtain⟨fp,fq,rfl,_⟩:=lf
 obtain⟨gp,gq,rfl,_⟩:=lg
 obtain⟨sp,sq,rfl,_⟩:=aG
 obtain⟨xp,xq,rfl⟩:=lc.shape
 obtain⟨yp,yq,rfl⟩:=ll.shape
 simp only[List.length_singleton]at V⊢;clear lc ll;have d:=hid (F.out.below CJ);have Da:w.heap.size≤f.heap.size:=Q.size;have y0:=d.out.cell 0 rfl;have y1:=d.out.cell 1 rfl;have y2:=d.out.cell 2 rfl;have y3:=d.out.cell 3 rfl;have y4:=d.out.cell 4 rfl;have y5:=d.out.cell 5 rfl;have y6:=d.out.cell 6 rfl;have y7:=d.out.cell 7 rfl;have y8:=d.out.cell 8 rfl;have f0:=d.out.fr 0;have f1:=d.out.fr 1;have f2:=d.out.fr 2;have f3:=d.out.fr 3;have f4:=d.out.fr 4;have f5:=d.out.fr 5;have f6:=d.out.fr 6;have f7:=d.out.fr 7;have f8:=d.out.fr 8;obtain⟨w9,O⟩: ∃X,X=(((((((((w8.setCell ⟨f.heap.size,0,none⟩ (.slice fp H.fos.length fq)).setCell ⟨f.heap.size,1,none⟩ (.slice gp H.gs.length gq)).setCell ⟨f.heap.size,2,none⟩ (.slice sp H.ss.length sq)).setCell ⟨f.heap.size,3,none⟩ (.int .i64 H.nx)).setCell ⟨f.heap.size,4,none⟩ (.int .i64 H.la)).setCell ⟨f.heap.size,5,none⟩ (.int .i64 H.ro)).setCell ⟨f.heap.size,6,none⟩ (.int .i64 H.now)).setCell ⟨f.heap.size,7,none⟩ (.slice xp 1 xq)).setCell ⟨f.heap.size,8,none⟩ (.slice yp 1 yq)):=⟨_,rfl⟩
 have I:=jh d.out (.slice fp H.fos.length fq) (.slice gp H.gs.length gq) (.slice sp H.ss.length sq) (.int .i64 H.nx) (.int .i64 H.la) (.int .i64 H.ro) (.int .i64 H.now) (.slice xp 1 xq) (.slice yp 1 yq);rw[←O]at I;have j:=hid I.1;have CR:=hid (show di w9 (.agg #[.slice fp H.fos.length fq,.slice gp H.gs.length gq,.slice sp H.ss.length sq,.int .i64 H.nx,.int .i64 H.la,.int .i64 H.ro,.int .i64 H.now,.slice xp 1 xq,.slice yp 1 yq]) ⟨H,[aH],[dM]⟩from Cg V.out I.2 d.out);have A:Below w.heap.size w w9:=by rw[O];exact(((((((((CF.setCell (p:=⟨f.heap.size,0,none⟩) (by show w.heap.size≤f.heap.size;omega) _).setCell (p:=⟨f.heap.size,1,none⟩) (by show w.heap.size≤f.heap.size;omega) _).setCell (p:=⟨f.heap.size,2,none⟩) (by show w.heap.size≤f.heap.size;omega) _).setCell (p:=⟨f.heap.size,3,none⟩) (by show w.heap.size≤f.heap.size;omega) _).setCell (p:=⟨f.heap.size,4,none⟩) (by show w.heap.size≤f.heap.size;omega) _).setCell (p:=⟨f.heap.size,5,none⟩) (by show w.heap.size≤f.heap.size;omega) _).setCell (p:=⟨f.heap.size,6,none⟩) (by show w.heap.size≤f.heap.size;omega) _).setCell (p:=⟨f.heap.size,7,none⟩) (by show w.heap.size≤f.heap.size;omega) _).setCell (p:=⟨f.heap.size,8,none⟩) (by show w.heap.size≤f.heap.size;omega) _)
 have CZ:=hid (C3.out w9 A);have D6:5<w9.heap.size:=by have:=A.size;omega
 go_upto_region 5 with fail;rw[←O];clear O I y0 y1 y2 y3 y4 y5 y6 y7 y8 f0 f1 f2 f3 f4 f5 f6 f7 f8;have z0:=j.out.cell 0 rfl;have z1:=j.out.cell 1 rfl;have z2:=j.out.cell 2 rfl;have z3:=j.out.cell 3 rfl;have z4:=j.out.cell 4 rfl;have z5:=j.out.cell 5 rfl;have z6:=j.out.cell 6 rfl;have z7:=j.out.cell 7 rfl;have z8:=j.out.cell 8 rfl;go_wp2_with fail;refine(Ca fH H CP.out _ w9 CR.out CW.out D3.out D6 CZ.out).mono ?_
 rintro e Db ⟨rfl,S⟩;clear z0 z1 z2 z3 z4 z5 z6 z7 z8;have z8:=(j.out.below S).cell 8 rfl;have C6:=af A S;go_wp2_with fail;go_ret;exact⟨rfl,C6⟩
end Go.Proofs.YtgamnckfmmbjdaaGreatDoor
