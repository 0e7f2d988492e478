/- The program's Asked: a text that is read as a request; whatever is wrong is caught. -/
import Derived.Test.YtgamnckfmmbjdaaGreatDoorWGZG
import Derived.Defers
import Derived.Laws.Pointers
import Derived.Test.YtgamnckfmmbjdaaGreatDoorWGZH
set_option linter.unusedSimpArgs false
set_option linter.unusedVariables false
namespace Go.Proofs.YtgamnckfmmbjdaaGreatDoor
open Go.RowKit Go.Proofs.Tryz
set_option maxHeartbeats 4000000
set_option maxRecDepth 100000
def Wr.whole {α:Type}:Option (α×List UInt8)→Option α
 |some (x,[])=>some x
 |_=>none
def sv {α:Type} (res:Option α) (z:Value) (V:α→Value→World→Prop) (e:Ending) (w':World):Prop:=match res with
 |none=>e= .returned (.tuple #[z,.int .i64 1])
 |some x=> ∃v,e= .returned (.tuple #[v,.int .i64 0])∧V x v w'
theorem fl.set {B:Nat} {q:Rq} {v:Value} {W:World} (h:fl B q v W) {g:Nat} (e:g<B) (i:Nat) (u:Value):fl B q v (W.setCell ⟨g,i,none⟩ u):=by
 obtain⟨f,a,d⟩:=h
 exact⟨f,a,d.setC e i u⟩
theorem fl.low {B a:Nat} {q:Rq} {v:Value} {W:World} (h:fl B q v W) (f:a≤B):fl a q v W:=by
 obtain⟨j,d,e⟩:=h
 exact⟨j,d,e.low f⟩
theorem cV.belowC {B:Nat} {T:TypeId} {n:Nat} {xs:List ar} {v:Value} {W d:World} (h:cV B T n gM xs v W) (a:Below W.heap.size W d):cV B T n gM xs v d:=by
 obtain⟨Z,e,f,j⟩:=h
 refine⟨Z,e,f.kept (row:=none) ⟨a.os,a.tape,a.output,a.size,fun k o _=>a.block k o⟩ (by cases u:v.ownBlock with
  |none=>exact Or.inl rfl
  |some q=>exact Or.inr (by simp)),j⟩
theorem fl.below {B:Nat} {q:Rq} {v:Value} {W a:World} (h:fl B q v W) (f:Below W.heap.size W a):fl B q v a:=by
 obtain⟨j,d,e⟩:=h
 exact⟨j,d,e.belowC f⟩
theorem AA {W a:World} {b B:Nat} (h:W.grownBy a (some b)) (hb:B≤b) (d:B≤W.heap.size):Below B W a:=⟨h.os,h.tape,h.output,h.size,fun k f=>h.block k (by omega) (fun e=>by injection e;omega)⟩
theorem Tryz.errnoYes (t:TypeId) (W:World):(Instr.typeAssert (.iface 33 (.int .i64 1)) t 33 true).run prog W= .ok (.tuple #[.int .i64 1,.bool true]) W:=by kernel_rfl
theorem Tryz.errnoNo (t:TypeId) (W:World):(Instr.typeAssert .nilIface t 33 true).run prog W= .ok (.tuple #[.int .i64 0,.bool false]) W:=by kernel_rfl
theorem AB (p:Addr) (w:World) (d:w.cell? p=some (.int .i64 0)) (j:w.frozen? p=false):
    CallsD prog 181 #[.pointer (some p)] (.panicking [{v:= .iface 33 (.int .i64 1),recovered:=false}]) w fun e o w'=>
     e= .returned (.tuple #[])∧o= .panicking [{v:= .iface 33 (.int .i64 1),recovered:=true}]∧w'=w.setCell p (.int .i64 1):=by
 refine callsD_of_wpS func181 rfl fun u cs f=>?_
 have a:=Tryz.errnoYes;apply wpS_seq
 apply wpS_region
 simp[wpOpsS,go_sem,recoverD,f,a,ntmps181,Exit.thenS,Array.replicate]
 apply wpS_seq
 apply wpS_region
 simp[wpOpsS,go_sem,Exit.thenS]
 refine wpS_cond (t:=true) (by simp[Act.eval,Array.replicate]) ?_
 simp only[if_true];apply wpS_region
 simp[wpOpsS,go_sem,d,j,bodyPostS,results,results181]
theorem AC (p:Addr) (w:World):
    CallsD prog 181 #[.pointer (some p)] .returning w fun e j w'=>e= .returned (.tuple #[])∧j= .returning∧w'=w:=by
 refine callsD_of_wpS func181 rfl fun a cs f=>?_
 have d:=Tryz.errnoNo;apply wpS_seq
 apply wpS_region
 simp[wpOpsS,go_sem,recoverD,f,d,ntmps181,Exit.thenS,Array.replicate]
 apply wpS_seq
 apply wpS_region
 simp[wpOpsS,go_sem,Exit.thenS]
 refine wpS_cond (t:=false) (by simp[Act.eval,Array.replicate]) ?_
 simp only[Bool.false_eq_true,if_false];refine wpS_of_wp (wp_skip ?_)
 cases a
 simp_all [bodyPostS,results,results181]
theorem sw (d:Array Value) (c e:Nat) (R:Ending→World→Prop) (W:World) (E:d.getD 4 undef= .pointer (some ⟨c,0,none⟩)) (F:d.getD 5 undef= .pointer (some ⟨e,0,none⟩)) (A:c≠e) (z:Cs W c eF) (ae:Cs W e [.int .i64 0]) (G:R (.returned (.tuple #[.agg eF.toArray,.int .i64 1])) (W.setCell ⟨e,0,none⟩ (.int .i64 1))):
    Leaves prog Tryz.f141 d R [{target:=Target.fn (Fn.func 181) #[.pointer (some ⟨e,0,none⟩)],args:= #[]}] (.panicking [{v:= .iface 33 (.int .i64 1),recovered:=false}]) W:=by
 refine leaves_cons (f:=181) (args:= #[.pointer (some ⟨e,0,none⟩)]) (by simp) (by simp[go_sem]) ?_
 refine(AB ⟨e,0,none⟩ _ (ae.cell 0 rfl) (ae.fr 0)).mono ?_
 rintro ay U H ⟨rfl,rfl,rfl⟩;have a:=z.other (o:=0) A (.int .i64 1);have y:=(ae.set 0 (.int .i64 1)).cell 0 rfl;have I:=a.cell 0 rfl;have J:=a.cell 1 rfl;have K:=a.cell 2 rfl;have M:=a.cell 3 rfl;have N:=a.cell 4 rfl;have O:=a.cell 5 rfl;have P:=a.cell 6 rfl;have Q:=a.cell 7 rfl;have S:=a.cell 8 rfl;have T:=a.cell 9 rfl;refine⟨_,?_,G⟩
 have j:d[4]?.getD undef= .pointer (some ⟨c,0,none⟩):=by rw[←E];simp
 have u:d[5]?.getD undef= .pointer (some ⟨e,0,none⟩):=by rw[←F];simp
 simp[results,results141,go_sem,j,u,y,I,J,K,M,N,O,P,Q,S,T]
theorem AD (a:Array Value) (e:Nat) (R:Ending→World→Prop) (W:World) (d: ∃v,(results Tryz.f141 a).run prog W= .ok v W∧R (.returned v) W):
    Leaves prog Tryz.f141 a R [{target:=Target.fn (Fn.func 181) #[.pointer (some ⟨e,0,none⟩)],args:= #[]}] .returning W:=by
 refine leaves_cons (f:=181) (args:= #[.pointer (some ⟨e,0,none⟩)]) (by simp) (by simp[go_sem]) ?_
 refine(AC ⟨e,0,none⟩ _).mono ?_
 rintro ay o j ⟨rfl,rfl,rfl⟩;exact d
theorem AE: ∀a w,(callFunc 142 a).run prog w= .ok (.enter 142 a) w:=enters_of func142 (by kernel_rfl) rfl
theorem AF (s:ByteArray) (w:World) (hs:s.size≤cF) (h6:5<w.heap.size) (hv:aR w):
    Calls prog 141 #[.string s,.func (.func 142) #[] #[]] w fun e w'=>sv (Wr.whole (eE aF 1000 s.data.toList)) (.agg eF.toArray) (fl w.heap.size) e w'∧Below w.heap.size w w':=by
 have CC: ∀(fn:Fn) (first cap:Array Value) (w:World),(Instr.makeFunc fn first cap).run prog w= .ok (.func fn first cap) w:=fun _ _ _ _=>rfl
 have eg:=AE;obtain⟨l,rfl⟩: ∃l:List UInt8,s=⟨l.toArray⟩:=⟨s.data.toList,by simp⟩
 have C6:l.length≤cF:=by rw[Lib.size_eq]at hs;simpa using hs
 rw[show(⟨l.toArray⟩:ByteArray).data.toList=l from by simp];obtain⟨J,y⟩: ∃J,J=w.alloc (.cells eF.toArray 57):=⟨_,rfl⟩
 obtain⟨M,A⟩: ∃M,M=J.alloc (.cells #[.int .i64 0] 33):=⟨_,rfl⟩
 obtain⟨F,E⟩: ∃F,F=M.alloc (.cells #[.string ⟨l.toArray⟩] 240):=⟨_,rfl⟩
 have s0:J.heap.size=w.heap.size+1:=by rw[y];simp
 have s5:M.heap.size=w.heap.size+1+1:=by rw[A];simp[s0]
 have sa:F.heap.size=w.heap.size+1+1+1:=by rw[E];simp[s5]
 have aH:Below w.heap.size w J:=by rw[y];exact dA _ _
 have b5:Below J.heap.size J M:=by rw[A];exact dA _ _
 have Z:Below M.heap.size M F:=by rw[E];exact dA _ _
 have o:Below w.heap.size w F:=(aH.trans (b5.mono (by omega))).trans (Z.mono (by omega))
 have H:Cs F w.heap.size eF:=by
  have h1:Cs J w.heap.size eF:=by rw[y];exact Cs.new w eF _
  exact(h1.below b5).below Z
 have G:Cs F (w.heap.size+1) [.int .i64 0]:=by
  have h1:Cs M J.heap.size [.int .i64 0]:=by rw[A];exact Cs.new J [.int .i64 0] _
  rw[s0]at h1;exact h1.below Z
 have Y:Rd (w.heap.size+1+1) l F:=by rw[←s5,E];exact heap_alloc_new M _
 have HK:=hid (Az (w.heap.size+1+1) l F Y C6 (by omega) (hv.belowB (by omega) o));rw[E,A,y]at HK;have C3:=hid (show F=((w.alloc (.cells eF.toArray 57)).alloc (.cells #[.int .i64 0] 33)).alloc (.cells #[.string ⟨l.toArray⟩] 240)from by rw[E,A,y]);have HC:=hid (And.intro H (And.intro G o));have K:=hid sa;clear hs E A y aH b5 Z s0 s5 H G o Y sa;go_enter_defers func141,ntmps141
 go_wp2_with fail;refine HK.out.mono ?_
 rintro e O ⟨V,u⟩;rw[←C3.out]at V u;obtain⟨H,G,o⟩:=HC.out
 have a:=H.nb u (by omega);have j:=G.nb u (by omega);have f:Below w.heap.size w O:=o.trans (AA u (by omega) o.size);have T:=u.size;rw[K.out]at T;cases X:eE aF 1000 l with
 |none=>
  rw[X]at V;cases V
  exact sw _ _ _ _ _ rfl rfl (by omega) a j ⟨by rw[X];rfl,f.setCell (p:=⟨w.heap.size+1,0,none⟩) (by simp) _⟩
 |some z=>
 obtain⟨q,r⟩:=z
 rw[X]at V;obtain⟨v1,rfl,hV,S⟩:=V
 have C9:=S.cell;have HV:=hid hV;have C7:=hid S;have U:=hid (And.intro a (And.intro j f));obtain⟨vc,rfl,N⟩:=HV.out
 obtain⟨av,lv,cv,rfl⟩:=N.shape
 clear N;have bP:w.heap.size+1+1<O.heap.size:=by omega
 have q1:w.heap.size+1<O.heap.size:=by omega
 have bD:w.heap.size<O.heap.size:=by omega
 have m2: ¬w.heap.size+1+1=O.heap.size:=by omega
 have m1: ¬w.heap.size+1=O.heap.size:=by omega
 have m0: ¬w.heap.size=O.heap.size:=by omega
 have C8:=hid T;clear hV S H G o HK u T;cases r with
 |cons x r=>
  have Q:((⟨(x::r).toArray⟩:ByteArray).toList==(⟨#[]⟩:ByteArray).toList)=false:=by
   rw[beq_eq_false_iff_ne];intro h;rw[Lib.toList_data,Lib.toList_data]at h;simp at h
  have C5:((⟨(x::r).toArray⟩:ByteArray).toList !=(⟨#[]⟩:ByteArray).toList)=true:=by rw[bne,Q];rfl
  clear a j f;go_wp2_with fail;refine(gJ _).mono ?_
  rintro e w3 ⟨rfl,rfl⟩;obtain⟨a,j,f⟩:=U.out
  have P:=dA O (.cells #[.int .i64 q.kind,.string q.who,.string q.fo,.string q.name,.string q.key,.string q.text,.int .i64 q.num,.int .i64 q.off,.int .i64 q.base,.slice av lv cv] 57);exact sw _ _ _ _ _ rfl rfl (by omega) (a.below P) (j.below P) ⟨by rw[X];rfl,(f.trans (P.mono (Nat.le_of_lt bD))).setCell (p:=⟨w.heap.size+1,0,none⟩) (by simp) _⟩
 |nil=>
  have Q:((⟨[].toArray⟩:ByteArray).toList==(⟨#[]⟩:ByteArray).toList)=true:=by
   rw[Lib.toList_data];rfl
  have C5:((⟨[].toArray⟩:ByteArray).toList !=(⟨#[]⟩:ByteArray).toList)=false:=by rw[bne,Q];rfl
  have y0:=a.cell 0 rfl;have x0:=a.fr 0;have y1:=a.cell 1 rfl;have aD:=a.fr 1;have y2:=a.cell 2 rfl;have x2:=a.fr 2;have y3:=a.cell 3 rfl;have x3:=a.fr 3;have y4:=a.cell 4 rfl;have x4:=a.fr 4;have y5:=a.cell 5 rfl;have x5:=a.fr 5;have y6:=a.cell 6 rfl;have x6:=a.fr 6;have y7:=a.cell 7 rfl;have x7:=a.fr 7;have y8:=a.cell 8 rfl;have x8:=a.fr 8;have y9:=a.cell 9 rfl;have x9:=a.fr 9;have aP:=j.cell 0 rfl;have g0:=j.fr 0;clear a j f;go_wp2_with fail;obtain⟨_,_,f⟩:=U.out
  have k1: ¬w.heap.size+1=w.heap.size:=by omega
  have k2: ¬w.heap.size=w.heap.size+1:=by omega
  have d:w.heap.size<F.heap.size:=by rw[K.out];omega
  have C4:w.heap.size+1<F.heap.size:=by rw[K.out];omega
  have ay:w.heap.size≤w.heap.size+1:=Nat.le_succ _;have I:=Nat.le_refl w.heap.size;refine AD _ _ _ _ ⟨.tuple #[.agg #[.int .i64 q.kind,.string q.who,.string q.fo,.string q.name,.string q.key,.string q.text,.int .i64 q.num,.int .i64 q.off,.int .i64 q.base,.slice av lv cv],.int .i64 0],?_,?_,?_⟩
  · simp[results,results141,go_sem,k1,k2,m0,m1,bD,q1,y0,y1,y2,y3,y4,y5,y6,y7,y8,y9,aP]
  · rw[X]
    exact⟨_,rfl,(HV.out|>.set d 0 _|>.set d 1 _|>.set d 2 _|>.set d 3 _|>.set d 4 _|>.set d 5 _|>.set d 6 _|>.set d 7 _|>.set d 8 _|>.set d 9 _|>.set C4 0 (.int .i64 0)).low (by rw[K.out];omega)|>.below (dA _ _)⟩
  · exact(((f|>.setCell (p:=⟨w.heap.size,0,none⟩) I _|>.setCell (p:=⟨w.heap.size,1,none⟩) I _|>.setCell (p:=⟨w.heap.size,2,none⟩) I _|>.setCell (p:=⟨w.heap.size,3,none⟩) I _|>.setCell (p:=⟨w.heap.size,4,none⟩) I _|>.setCell (p:=⟨w.heap.size,5,none⟩) I _|>.setCell (p:=⟨w.heap.size,6,none⟩) I _|>.setCell (p:=⟨w.heap.size,7,none⟩) I _|>.setCell (p:=⟨w.heap.size,8,none⟩) I _|>.setCell (p:=⟨w.heap.size,9,none⟩) I _).setCell (p:=⟨w.heap.size+1,0,none⟩) ay _).alloc (by simp;omega) _)
theorem AG (s:ByteArray) (w:World) (hs:s.size≤cF) (h6:5<w.heap.size) (M:aR w):
    Calls prog 96 #[.string s] w fun e w'=>sv (Wr.whole (eE aF 1000 s.data.toList)) (.agg eF.toArray) (fl w.heap.size) e w'∧Below w.heap.size w w':=by
 obtain⟨y,f⟩: ∃y,y=w.alloc (.cells eF.toArray 57):=⟨_,rfl⟩
 have o:y.heap.size=w.heap.size+1:=by rw[f];simp
 have aH:Below w.heap.size w y:=by rw[f];exact dA _ _
 have A:Cs y w.heap.size eF:=by rw[f];exact Cs.new w eF _
 have F:=hid (AF s y hs (by omega) (M.belowB h6 aH));rw[f]at F;have G:=hid f;have Z:=hid (And.intro aH A);clear f M aH A;generalize hR:Wr.whole (eE aF 1000 s.data.toList)=I at*;go_enter func96,ntmps96
 go_wp2_with fail;refine F.out.mono ?_
 rintro e w1 ⟨H,j⟩;rw[←G.out]at H j;obtain⟨aH,A⟩:=Z.out
 have a:=A.below j;have E:Below w.heap.size w w1:=aH.trans (j.mono (by omega));have C3:=j.size;have N:=a.cell 0 rfl;have x0:=a.fr 0;have O:=a.cell 1 rfl;have aD:=a.fr 1;have P:=a.cell 2 rfl;have x2:=a.fr 2;have Q:=a.cell 3 rfl;have x3:=a.fr 3;have S:=a.cell 4 rfl;have x4:=a.fr 4;have T:=a.cell 5 rfl;have x5:=a.fr 5;have U:=a.cell 6 rfl;have x6:=a.fr 6;have V:=a.cell 7 rfl;have x7:=a.fr 7;have X:=a.cell 8 rfl;have x8:=a.fr 8;have Y:=a.cell 9 rfl;have x9:=a.fr 9;have d:=Nat.le_refl w.heap.size;have z:=hid E;clear E j A aH F;cases I with
 |none=>
  cases H
  go_wp2_with fail;refine bodyPost_ret (v:= .tuple #[.agg eF.toArray,.int .i64 1]) (by simp[results,results96,go_sem,N,O,P,Q,S,T,U,V,X,Y]) rfl ⟨rfl,?_⟩
  exact(z.out|>.setCell (p:=⟨w.heap.size,0,none⟩) d _|>.setCell (p:=⟨w.heap.size,1,none⟩) d _|>.setCell (p:=⟨w.heap.size,2,none⟩) d _|>.setCell (p:=⟨w.heap.size,3,none⟩) d _|>.setCell (p:=⟨w.heap.size,4,none⟩) d _|>.setCell (p:=⟨w.heap.size,5,none⟩) d _|>.setCell (p:=⟨w.heap.size,6,none⟩) d _|>.setCell (p:=⟨w.heap.size,7,none⟩) d _|>.setCell (p:=⟨w.heap.size,8,none⟩) d _|>.setCell (p:=⟨w.heap.size,9,none⟩) d _)
 |some q=>
  obtain⟨v1,rfl,K⟩:=H
  have J:=hid K;obtain⟨vc,rfl,u⟩:=J.out
  obtain⟨av,lv,cv,rfl⟩:=u.shape
  clear u;clear K;go_wp2_with fail;refine bodyPost_ret (v:= .tuple #[.agg #[.int .i64 q.kind,.string q.who,.string q.fo,.string q.name,.string q.key,.string q.text,.int .i64 q.num,.int .i64 q.off,.int .i64 q.base,.slice av lv cv],.int .i64 0]) (by simp[results,results96,go_sem,N,O,P,Q,S,T,U,V,X,Y]) rfl ⟨⟨_,rfl,?_⟩,?_⟩
  · exact(J.out|>.set (by rw[o];omega) 0 _|>.set (by rw[o];omega) 1 _|>.set (by rw[o];omega) 2 _|>.set (by rw[o];omega) 3 _|>.set (by rw[o];omega) 4 _|>.set (by rw[o];omega) 5 _|>.set (by rw[o];omega) 6 _|>.set (by rw[o];omega) 7 _|>.set (by rw[o];omega) 8 _|>.set (by rw[o];omega) 9 _).low (by rw[o];omega)
  · exact(z.out|>.setCell (p:=⟨w.heap.size,0,none⟩) d _|>.setCell (p:=⟨w.heap.size,1,none⟩) d _|>.setCell (p:=⟨w.heap.size,2,none⟩) d _|>.setCell (p:=⟨w.heap.size,3,none⟩) d _|>.setCell (p:=⟨w.heap.size,4,none⟩) d _|>.setCell (p:=⟨w.heap.size,5,none⟩) d _|>.setCell (p:=⟨w.heap.size,6,none⟩) d _|>.setCell (p:=⟨w.heap.size,7,none⟩) d _|>.setCell (p:=⟨w.heap.size,8,none⟩) d _|>.setCell (p:=⟨w.heap.size,9,none⟩) d _)
def kL (s:ByteArray):Int:=if(Wr.whole (eE aF 1000 s.data.toList)).isSome then 0 else 1
def lW (td:ByteArray→Int) (l:Lr):Int:=if l.ans=true then td l.tx else kL l.tx
def dj (td:ByteArray→Int) (n:Nat) (l:Lr):Int:=if l.fr<0∨(n:Int)≤l.fr then 3 else if¬(l.kind=2∨l.kind=1)then 7 else lW td l
def dL (td:ByteArray→Int) (n:Nat):List Lr→Int
 |[]=>0
 |l::r=>if¬dj td n l=0 then dj td n l else dL td n r
def bU (td:ByteArray→Int) (W:Wd):Int:=if¬ae W.hb=0 then ae W.hb else if 4<W.cls.length∨30<W.les.length then 2 else if¬dH W.cls=0 then dH W.cls else dL td W.cls.length W.les
theorem sy {a:ByteArray→Int} {n:Nat}: ∀{l:List Lr} {k:Nat} (h:k<l.length),dL a n (l.take k)=0→ ¬dj a n l[k]=0→dL a n l=dj a n l[k]
 |[],_,h,_,_=>absurd h (by simp)
 |c::r,0,_,_,hn=>by
  simp only[List.getElem_cons_zero]at hn⊢;rw[dL,if_pos hn]
 |c::r,k+1,h,h0,hn=>by
  rw[List.take_succ_cons,dL]at h0;by_cases d:dj a n c=0
  · rw[if_neg (fun x=>x d)]at h0
    rw[dL,if_neg (fun x=>x d)];simp only[List.getElem_cons_succ]at hn⊢;exact sy (by simpa using h) h0 hn
  · rw[if_pos d]at h0
    exact absurd h0 d
theorem sA {a:ByteArray→Int} {n:Nat}: ∀{l:List Lr} {k:Nat} (h:k<l.length),dL a n (l.take k)=0→dj a n l[k]=0→dL a n (l.take (k+1))=0
 |[],_,h,_,_=>absurd h (by simp)
 |c::r,0,_,_,hn=>by
  simp only[List.getElem_cons_zero]at hn;simp[List.take_succ_cons,dL,hn]
 |c::r,k+1,h,h0,hn=>by
  rw[List.take_succ_cons,dL]at h0;rw[List.take_succ_cons,dL];by_cases d:dj a n c=0
  · rw[if_neg (fun x=>x d)]at h0⊢
    exact sA (by simpa using h) h0 (by simpa using hn)
  · rw[if_pos d]at h0
    exact absurd h0 d
def oE (td:ByteArray→Int):Prop:= ∀(s:ByteArray) (w:World),s.size≤cF→5<w.heap.size→aR w→Calls prog 95 #[.string s] w fun e w'=>(∃v,e= .returned (.tuple #[v,.int .i64 (td s)]))∧Below w.heap.size w w'
theorem AH (s:ByteArray) (w:World) (j:s.size≤cF) (f:5<w.heap.size) (o:aR w):
    Calls prog 96 #[.string s] w fun e w'=>(∃v,e= .returned (.tuple #[v,.int .i64 (kL s)]))∧Below w.heap.size w w':=by
 refine(AG s w j f o).mono ?_
 rintro e w' ⟨a,hb⟩;refine⟨?_,hb⟩
 rw[kL];cases d:Wr.whole (eE aF 1000 s.data.toList)with
 |none=>rw[d]at a;exact⟨_,a⟩
 |some q=>
  rw[d]at a;obtain⟨v,rfl,_⟩:=a
  exact⟨v,rfl⟩
theorem sB (J:ByteArray→Int) (l:Lr) (w:World) (z:l.ans=true→oE J) (H:l.tx.size≤cF) (K:5<w.heap.size) (I:aR w):
    Calls prog 48 #[.agg #[.int .i64 l.fr,.int .i64 l.kind,.bool l.ans,.string l.tx]] w fun e w'=>e= .returned (.int .i64 (lW J l))∧Below w.heap.size w w':=by
 obtain⟨u,j⟩: ∃u,u=w.alloc (.cells #[.int .i64 l.fr,.int .i64 l.kind,.bool l.ans,.string l.tx] 66):=⟨_,rfl⟩
 have f:Below w.heap.size w u:=by rw[j];exact(Below.refl _ _).alloc (Nat.le_refl _) _
 have G:=hid (show Cs u w.heap.size [.int .i64 l.fr,.int .i64 l.kind,.bool l.ans,.string l.tx] by rw[j];exact Cs.new w [.int .i64 l.fr,.int .i64 l.kind,.bool l.ans,.string l.tx] _);have E:=hid H;have F:=hid (I.belowB K f);have y:5<u.heap.size:=by have:=f.size;omega
 have A:=hid z;have N:=G.out.cell 2 rfl;have O:=G.out.cell 3 rfl;have d:=hid j.symm;clear j H I z;obtain⟨fr,kind,ans,tx⟩:=l
 simp only at*;cases ans with
 |true=>
  go_enter func48,ntmps48
  go_upto_region 1 with fail;rw[d.out];clear d;go_wp2_with fail;refine(A.out (by simp) tx u E.out y F.out).mono ?_
  rintro e M ⟨⟨v,rfl⟩,o⟩;have a:=af f o;go_wp2_with fail;go_ret;exact⟨rfl,a⟩
 |false=>
  go_enter func48,ntmps48
  go_upto_region 1 with fail;rw[d.out];clear d;go_wp2_with fail;refine(AH tx u E.out y F.out).mono ?_
  rintro e M ⟨⟨v,rfl⟩,o⟩;have a:=af f o;go_wp2_with fail;go_ret;exact⟨rfl,a⟩
theorem AI (H:ByteArray→Int) (l:Lr) (b n xc:Nat) (xa:Option Addr) (w:World) (hp:w.cell? ⟨b,7,none⟩=some (.slice xa n xc)) (hb:b<w.heap.size) (T:l.ans=true→oE H) (hs:l.tx.size≤cF) (U:5<w.heap.size) (hv:aR w):
    Calls prog 20 #[.pointer (some ⟨b,0,none⟩),.agg #[.int .i64 l.fr,.int .i64 l.kind,.bool l.ans,.string l.tx]] w fun e w'=>e= .returned (.int .i64 (dj H n l))∧Below w.heap.size w w':=by
 obtain⟨u,G⟩: ∃u,u=w.alloc (.cells #[.int .i64 l.fr,.int .i64 l.kind,.bool l.ans,.string l.tx] 66):=⟨_,rfl⟩
 have d:Below w.heap.size w u:=by rw[G];exact(Below.refl _ _).alloc (Nat.le_refl _) _
 have Q:=hid (show Cs u w.heap.size [.int .i64 l.fr,.int .i64 l.kind,.bool l.ans,.string l.tx] by rw[G];exact Cs.new w [.int .i64 l.fr,.int .i64 l.kind,.bool l.ans,.string l.tx] _);have K:=(d.cell (p:=⟨b,7,none⟩) hb).trans hp;have Z:=hid hs;have P:=hid (fun W (hW:Below w.heap.size w W)=>hv.belowB U hW);have Y:=hid U;have O:=hid T;have X:=Q.out.cell 0 rfl;have aD:=Q.out.cell 1 rfl;have o:=hid G.symm;have C3: ¬b=w.heap.size:=by omega
 clear G hs hv T hp U;by_cases hA:l.fr<0
 · have I:=hid (show dj H n l=3 from by rw[dj,if_pos (Or.inl hA)])
   go_enter func20,ntmps20
   go_upto_region 1 with fail;rw[o.out];clear o;go_wp2_with fail;go_quiet (fail)
   generalize f:World.drewN u _=A;have j:Below w.heap.size w A:=f▸⟨d.os,d.tape,d.output,d.size,d.block⟩;clear f;go_wp2_with fail;go_ret;exact⟨by rw[I.out];rfl,j⟩
 · by_cases hB:(n:Int)≤l.fr
   · have I:=hid (show dj H n l=3 from by rw[dj,if_pos (Or.inr hB)])
     go_enter func20,ntmps20
     go_upto_region 1 with fail;rw[o.out];clear o;go_wp2_with fail;go_quiet (fail)
     generalize f:World.drewN u _=A;have j:Below w.heap.size w A:=f▸⟨d.os,d.tape,d.output,d.size,d.block⟩;clear f;go_wp2_with fail;go_ret;exact⟨by rw[I.out];rfl,j⟩
   · have F: ¬(l.fr<0∨(n:Int)≤l.fr):=fun h=>h.elim hA hB
     by_cases M:l.kind=2∨l.kind=1
     · have I:=hid (show dj H n l=lW H l from by rw[dj,if_neg F,if_neg (fun x=>x M)])
       clear F;rcases M with N|N
       · have S:(l.kind !=2)=false:=by simp[N]
         clear N;go_enter func20,ntmps20
         go_upto_region 1 with fail;rw[o.out];clear o;go_wp2_with fail;go_quiet (fail)
         generalize f:World.drewN u _=A;have y:=Below.refl u.heap.size u;have z:Below u.heap.size u A:=f▸⟨y.os,y.tape,y.output,y.size,y.block⟩;have j:=af d z;have a:=hid (Q.out.below z);have z0:=a.out.cell 0 rfl;have z1:=a.out.cell 1 rfl;have z2:=a.out.cell 2 rfl;have z3:=a.out.cell 3 rfl;clear f X aD K;go_wp2_with fail;refine(sB H l A O.out Z.out (by have:=Y.out;have:=j.size;omega) (P.out A j)).mono ?_
         rintro e w1 ⟨rfl,J⟩;have E:=af j J;go_wp2_with fail;go_ret;exact⟨by rw[I.out];rfl,E⟩
       · have S:(l.kind !=2)=true:=by simp[N]
         have V:(l.kind !=1)=false:=by simp[N]
         clear N;go_enter func20,ntmps20
         go_upto_region 1 with fail;rw[o.out];clear o;go_wp2_with fail;go_quiet (fail)
         generalize f:World.drewN u _=A;have y:=Below.refl u.heap.size u;have z:Below u.heap.size u A:=f▸⟨y.os,y.tape,y.output,y.size,y.block⟩;have j:=af d z;have a:=hid (Q.out.below z);have z0:=a.out.cell 0 rfl;have z1:=a.out.cell 1 rfl;have z2:=a.out.cell 2 rfl;have z3:=a.out.cell 3 rfl;clear f X aD K;go_wp2_with fail;refine(sB H l A O.out Z.out (by have:=Y.out;have:=j.size;omega) (P.out A j)).mono ?_
         rintro e w1 ⟨rfl,J⟩;have E:=af j J;go_wp2_with fail;go_ret;exact⟨by rw[I.out];rfl,E⟩
     · have I:=hid (show dj H n l=7 from by rw[dj,if_neg F,if_pos M])
       have S:(l.kind !=2)=true:=by simpa using fun h=>M (Or.inl h)
       have V:(l.kind !=1)=true:=by simpa using fun h=>M (Or.inr h)
       clear F M;go_enter func20,ntmps20
       go_upto_region 1 with fail;rw[o.out];clear o;go_wp2_with fail;go_quiet (fail)
       generalize f:World.drewN u _=A;have y:=Below.refl u.heap.size u;have z:Below u.heap.size u A:=f▸⟨y.os,y.tape,y.output,y.size,y.block⟩;have j:=af d z;have a:=hid (Q.out.below z);have z0:=a.out.cell 0 rfl;have z1:=a.out.cell 1 rfl;have z2:=a.out.cell 2 rfl;have z3:=a.out.cell 3 rfl;clear f X aD K;go_wp2_with fail;go_ret;exact⟨by rw[I.out];rfl,j⟩
end Go.Proofs.YtgamnckfmmbjdaaGreatDoor
