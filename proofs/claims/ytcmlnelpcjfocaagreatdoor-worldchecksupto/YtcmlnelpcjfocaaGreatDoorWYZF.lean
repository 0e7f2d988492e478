/- The program's Asked: a text that is read as a request; whatever is wrong is caught. -/
import Derived.Test.YtcmlnelpcjfocaaGreatDoorWYZD
import Derived.Defers
import Derived.Laws.Pointers
import Derived.Test.YtcmlnelpcjfocaaGreatDoorWYW
set_option linter.unusedSimpArgs false
set_option linter.unusedVariables false
namespace Go.Proofs.YtcmlnelpcjfocaaGreatDoor
open Go.RowKit Go.Proofs.Tryz
set_option maxHeartbeats 4000000
set_option maxRecDepth 100000
def Wr.whole {α:Type}:Option (α×List UInt8)→Option α
 |some (x,[])=>some x
 |_=>none
def lR {α:Type} (res:Option α) (z:Value) (V:α→Value→World→Prop) (e:Ending) (w':World):Prop:=match res with
 |none=>e= .returned (.tuple #[z,.int .i64 1])
 |some x=> ∃v,e= .returned (.tuple #[v,.int .i64 0])∧V x v w'
theorem gG.set {B:Nat} {q:Rq} {v:Value} {W:World} (h:gG B q v W) {g:Nat} (y:g<B) (i:Nat) (u:Value):gG B q v (W.setCell ⟨g,i,none⟩ u):=by
 obtain⟨z,d,f⟩:=h
 exact⟨z,d,f.setC y i u⟩
theorem gG.low {B B':Nat} {q:Rq} {v:Value} {W:World} (h:gG B q v W) (y:B'≤B):gG B' q v W:=by
 obtain⟨z,d,f⟩:=h
 exact⟨z,d,f.low y⟩
theorem aV.belowC {B:Nat} {T:TypeId} {n:Nat} {xs:List ay} {v:Value} {W f:World} (h:aV B T n fI xs v W) (d:Below W.heap.size W f):aV B T n fI xs v f:=by
 obtain⟨Z,y,z,A⟩:=h
 refine⟨Z,y,z.kept (row:=none) ⟨d.os,d.tape,d.output,d.size,fun k E _=>d.block k E⟩ (by cases F:v.ownBlock with
  |none=>exact Or.inl rfl
  |some q=>exact Or.inr (by simp)),A⟩
theorem gG.below {B:Nat} {q:Rq} {v:Value} {W d:World} (h:gG B q v W) (z:Below W.heap.size W d):gG B q v d:=by
 obtain⟨A,f,y⟩:=h
 exact⟨A,f,y.belowC z⟩
theorem lS {W d:World} {b B:Nat} (h:W.grownBy d (some b)) (hb:B≤b) (f:B≤W.heap.size):Below B W d:=⟨h.os,h.tape,h.output,h.size,fun k y=>h.block k (by omega) (fun e=>by injection e;omega)⟩
theorem Tryz.errnoYes (t:TypeId) (W:World):(Instr.typeAssert (.iface 33 (.int .i64 1)) t 33 true).run prog W= .ok (.tuple #[.int .i64 1,.bool true]) W:=by kernel_rfl
theorem Tryz.errnoNo (t:TypeId) (W:World):(Instr.typeAssert .nilIface t 33 true).run prog W= .ok (.tuple #[.int .i64 0,.bool false]) W:=by kernel_rfl
theorem Fg (p:Addr) (w:World) (f:w.cell? p=some (.int .i64 0)) (z:w.frozen? p=false):
    CallsD prog 186 #[.pointer (some p)] (.panicking [{v:= .iface 33 (.int .i64 1),recovered:=false}]) w fun e A w'=>
     e= .returned (.tuple #[])∧A= .panicking [{v:= .iface 33 (.int .i64 1),recovered:=true}]∧w'=w.setCell p (.int .i64 1):=by
 refine callsD_of_wpS func186 rfl fun E cs y=>?_
 have d:=Tryz.errnoYes;apply wpS_seq
 apply wpS_region
 simp[wpOpsS,go_sem,recoverD,y,d,ntmps186,Exit.thenS,Array.replicate]
 apply wpS_seq
 apply wpS_region
 simp[wpOpsS,go_sem,Exit.thenS]
 refine wpS_cond (t:=true) (by simp[Act.eval,Array.replicate]) ?_
 simp only[if_true];apply wpS_region
 simp[wpOpsS,go_sem,f,z,bodyPostS,results,results186]
theorem Fh (p:Addr) (w:World):
    CallsD prog 186 #[.pointer (some p)] .returning w fun e z w'=>e= .returned (.tuple #[])∧z= .returning∧w'=w:=by
 refine callsD_of_wpS func186 rfl fun d cs y=>?_
 have f:=Tryz.errnoNo;apply wpS_seq
 apply wpS_region
 simp[wpOpsS,go_sem,recoverD,y,f,ntmps186,Exit.thenS,Array.replicate]
 apply wpS_seq
 apply wpS_region
 simp[wpOpsS,go_sem,Exit.thenS]
 refine wpS_cond (t:=false) (by simp[Act.eval,Array.replicate]) ?_
 simp only[Bool.false_eq_true,if_false];refine wpS_of_wp (wp_skip ?_)
 cases d
 simp_all [bodyPostS,results,results186]
theorem xZ (y:Array Value) (c e:Nat) (R:Ending→World→Prop) (W:World) (H:y.getD 4 undef= .pointer (some ⟨c,0,none⟩)) (I:y.getD 5 undef= .pointer (some ⟨e,0,none⟩)) (G:c≠e) (F:Cs W c du) (ae:Cs W e [.int .i64 0]) (J:R (.returned (.tuple #[.agg du.toArray,.int .i64 1])) (W.setCell ⟨e,0,none⟩ (.int .i64 1))):
    Leaves prog Tryz.f143 y R [{target:=Target.fn (Fn.func 186) #[.pointer (some ⟨e,0,none⟩)],args:= #[]}] (.panicking [{v:= .iface 33 (.int .i64 1),recovered:=false}]) W:=by
 refine leaves_cons (f:=186) (args:= #[.pointer (some ⟨e,0,none⟩)]) (by simp) (by simp[go_sem]) ?_
 refine(Fg ⟨e,0,none⟩ _ (ae.cell 0 rfl) (ae.fr 0)).mono ?_
 rintro X Y K ⟨rfl,rfl,rfl⟩;have d:=F.other (o:=0) G (.int .i64 1);have E:=(ae.set 0 (.int .i64 1)).cell 0 rfl;have M:=d.cell 0 rfl;have N:=d.cell 1 rfl;have al:=d.cell 2 rfl;have O:=d.cell 3 rfl;have P:=d.cell 4 rfl;have Q:=d.cell 5 rfl;have S:=d.cell 6 rfl;have T:=d.cell 7 rfl;have U:=d.cell 8 rfl;have V:=d.cell 9 rfl;refine⟨_,?_,J⟩
 have z:y[4]?.getD undef= .pointer (some ⟨c,0,none⟩):=by rw[←H];simp
 have A:y[5]?.getD undef= .pointer (some ⟨e,0,none⟩):=by rw[←I];simp
 simp[results,results143,go_sem,z,A,E,M,N,al,O,P,Q,S,T,U,V]
theorem Fi (d:Array Value) (e:Nat) (R:Ending→World→Prop) (W:World) (y: ∃v,(results Tryz.f143 d).run prog W= .ok v W∧R (.returned v) W):
    Leaves prog Tryz.f143 d R [{target:=Target.fn (Fn.func 186) #[.pointer (some ⟨e,0,none⟩)],args:= #[]}] .returning W:=by
 refine leaves_cons (f:=186) (args:= #[.pointer (some ⟨e,0,none⟩)]) (by simp) (by simp[go_sem]) ?_
 refine(Fh ⟨e,0,none⟩ _).mono ?_
 rintro A E z ⟨rfl,rfl,rfl⟩;exact y
theorem Fj: ∀d w,(callFunc 144 d).run prog w= .ok (.enter 144 d) w:=enters_of func144 (by kernel_rfl) rfl
theorem Fk (s:ByteArray) (w:World) (hs:s.size≤cE) (h6:5<w.heap.size) (hv:aX w):
    Calls prog 143 #[.string s,.func (.func 144) #[] #[]] w fun e w'=>lR (Wr.whole (dK ah 1000 s.data.toList)) (.agg du.toArray) (gG w.heap.size) e w'∧Below w.heap.size w w':=by
 have Ix: ∀(fn:Fn) (first cap:Array Value) (w:World),(Instr.makeFunc fn first cap).run prog w= .ok (.func fn first cap) w:=fun _ _ _ _=>rfl
 have eg:=Fj;obtain⟨l,rfl⟩: ∃l:List UInt8,s=⟨l.toArray⟩:=⟨s.data.toList,by simp⟩
 have I8:l.length≤cE:=by rw[Lib.size_eq]at hs;simpa using hs
 rw[show(⟨l.toArray⟩:ByteArray).data.toList=l from by simp];obtain⟨O,G⟩: ∃O,O=w.alloc (.cells du.toArray 61):=⟨_,rfl⟩
 obtain⟨Q,H⟩: ∃Q,Q=O.alloc (.cells #[.int .i64 0] 33):=⟨_,rfl⟩
 obtain⟨J,I⟩: ∃J,J=Q.alloc (.cells #[.string ⟨l.toArray⟩] 245):=⟨_,rfl⟩
 have s0:O.heap.size=w.heap.size+1:=by rw[G];simp
 have s5:Q.heap.size=w.heap.size+1+1:=by rw[H];simp[s0]
 have sa:J.heap.size=w.heap.size+1+1+1:=by rw[I];simp[s5]
 have aR:Below w.heap.size w O:=by rw[G];exact bO _ _
 have b5:Below O.heap.size O Q:=by rw[H];exact bO _ _
 have ba:Below Q.heap.size Q J:=by rw[I];exact bO _ _
 have E:Below w.heap.size w J:=(aR.trans (b5.mono (by omega))).trans (ba.mono (by omega))
 have M:Cs J w.heap.size du:=by
  have h1:Cs O w.heap.size du:=by rw[G];exact Cs.new w du _
  exact(h1.below b5).below ba
 have K:Cs J (w.heap.size+1) [.int .i64 0]:=by
  have h1:Cs Q O.heap.size [.int .i64 0]:=by rw[H];exact Cs.new O [.int .i64 0] _
  rw[s0]at h1;exact h1.below ba
 have I0:Rd (w.heap.size+1+1) l J:=by rw[←s5,I];exact heap_alloc_new Q _
 have HK:=hid (EO (w.heap.size+1+1) l J I0 I8 (by omega) (hv.belowB (by omega) E));rw[I,H,G]at HK;have I5:=hid (show J=((w.alloc (.cells du.toArray 61)).alloc (.cells #[.int .i64 0] 33)).alloc (.cells #[.string ⟨l.toArray⟩] 245)from by rw[I,H,G]);have HC:=hid (And.intro M (And.intro K E));have P:=hid sa;clear hs I H G aR b5 ba s0 s5 M K E I0 sa;go_enter_defers func143,ntmps143
 go_wp2_with fail;refine HK.out.mono ?_
 rintro e T ⟨hp,F⟩;rw[←I5.out]at hp F;obtain⟨M,K,E⟩:=HC.out
 have d:=M.nb F (by omega);have A:=K.nb F (by omega);have y:Below w.heap.size w T:=E.trans (lS F (by omega) E.size);have Y:=F.size;rw[P.out]at Y;cases hq:dK ah 1000 l with
 |none=>
  rw[hq]at hp;cases hp
  exact xZ _ _ _ _ _ rfl rfl (by omega) d A ⟨by rw[hq];rfl,y.setCell (p:=⟨w.heap.size+1,0,none⟩) (by simp) _⟩
 |some z=>
 obtain⟨q,r⟩:=z
 rw[hq]at hp;obtain⟨v1,rfl,hV,X⟩:=hp
 have Iw:=X.cell;have HV:=hid hV;have I9:=hid X;have Z:=hid (And.intro d (And.intro A y));obtain⟨vc,rfl,S⟩:=HV.out
 obtain⟨av,lv,cv,rfl⟩:=S.shape
 clear S;have bZ:w.heap.size+1+1<T.heap.size:=by omega
 have q1:w.heap.size+1<T.heap.size:=by omega
 have br:w.heap.size<T.heap.size:=by omega
 have m2: ¬w.heap.size+1+1=T.heap.size:=by omega
 have m1: ¬w.heap.size+1=T.heap.size:=by omega
 have m0: ¬w.heap.size=T.heap.size:=by omega
 have Iv:=hid Y;clear hV X M K E HK F Y;cases r with
 |cons x r=>
  have V:((⟨(x::r).toArray⟩:ByteArray).toList==(⟨#[]⟩:ByteArray).toList)=false:=by
   rw[beq_eq_false_iff_ne];intro h;rw[Lib.toList_data,Lib.toList_data]at h;simp at h
  have I7:((⟨(x::r).toArray⟩:ByteArray).toList !=(⟨#[]⟩:ByteArray).toList)=true:=by rw[bne,V];rfl
  clear d A y;go_wp2_with fail;refine(ja _).mono ?_
  rintro e w3 ⟨rfl,rfl⟩;obtain⟨d,A,y⟩:=Z.out
  have U:=bO T (.cells #[.int .i64 q.kind,.string q.who,.string q.fo,.string q.name,.string q.key,.string q.text,.int .i64 q.num,.int .i64 q.off,.int .i64 q.base,.slice av lv cv] 61);exact xZ _ _ _ _ _ rfl rfl (by omega) (d.below U) (A.below U) ⟨by rw[hq];rfl,(y.trans (U.mono (Nat.le_of_lt br))).setCell (p:=⟨w.heap.size+1,0,none⟩) (by simp) _⟩
 |nil=>
  have V:((⟨[].toArray⟩:ByteArray).toList==(⟨#[]⟩:ByteArray).toList)=true:=by
   rw[Lib.toList_data];rfl
  have I7:((⟨[].toArray⟩:ByteArray).toList !=(⟨#[]⟩:ByteArray).toList)=false:=by rw[bne,V];rfl
  have y0:=d.cell 0 rfl;have x0:=d.fr 0;have y1:=d.cell 1 rfl;have x1:=d.fr 1;have al:=d.cell 2 rfl;have aY:=d.fr 2;have y3:=d.cell 3 rfl;have x3:=d.fr 3;have y4:=d.cell 4 rfl;have x4:=d.fr 4;have y5:=d.cell 5 rfl;have x5:=d.fr 5;have y6:=d.cell 6 rfl;have x6:=d.fr 6;have y7:=d.cell 7 rfl;have x7:=d.fr 7;have y8:=d.cell 8 rfl;have x8:=d.fr 8;have y9:=d.cell 9 rfl;have x9:=d.fr 9;have aL:=A.cell 0 rfl;have g0:=A.fr 0;clear d A y;go_wp2_with fail;obtain⟨_,_,y⟩:=Z.out
  have k1: ¬w.heap.size+1=w.heap.size:=by omega
  have k2: ¬w.heap.size=w.heap.size+1:=by omega
  have f:w.heap.size<J.heap.size:=by rw[P.out];omega
  have I6:w.heap.size+1<J.heap.size:=by rw[P.out];omega
  have e1:w.heap.size≤w.heap.size+1:=Nat.le_succ _;have N:=Nat.le_refl w.heap.size;refine Fi _ _ _ _ ⟨.tuple #[.agg #[.int .i64 q.kind,.string q.who,.string q.fo,.string q.name,.string q.key,.string q.text,.int .i64 q.num,.int .i64 q.off,.int .i64 q.base,.slice av lv cv],.int .i64 0],?_,?_,?_⟩
  · simp[results,results143,go_sem,k1,k2,m0,m1,br,q1,y0,y1,al,y3,y4,y5,y6,y7,y8,y9,aL]
  · rw[hq]
    exact⟨_,rfl,(HV.out|>.set f 0 _|>.set f 1 _|>.set f 2 _|>.set f 3 _|>.set f 4 _|>.set f 5 _|>.set f 6 _|>.set f 7 _|>.set f 8 _|>.set f 9 _|>.set I6 0 (.int .i64 0)).low (by rw[P.out];omega)|>.below (bO _ _)⟩
  · exact(((y|>.setCell (p:=⟨w.heap.size,0,none⟩) N _|>.setCell (p:=⟨w.heap.size,1,none⟩) N _|>.setCell (p:=⟨w.heap.size,2,none⟩) N _|>.setCell (p:=⟨w.heap.size,3,none⟩) N _|>.setCell (p:=⟨w.heap.size,4,none⟩) N _|>.setCell (p:=⟨w.heap.size,5,none⟩) N _|>.setCell (p:=⟨w.heap.size,6,none⟩) N _|>.setCell (p:=⟨w.heap.size,7,none⟩) N _|>.setCell (p:=⟨w.heap.size,8,none⟩) N _|>.setCell (p:=⟨w.heap.size,9,none⟩) N _).setCell (p:=⟨w.heap.size+1,0,none⟩) e1 _).alloc (by simp;omega) _)
theorem Fl (s:ByteArray) (w:World) (hs:s.size≤cE) (h6:5<w.heap.size) (Q:aX w):
    Calls prog 97 #[.string s] w fun e w'=>lR (Wr.whole (dK ah 1000 s.data.toList)) (.agg du.toArray) (gG w.heap.size) e w'∧Below w.heap.size w w':=by
 obtain⟨F,y⟩: ∃F,F=w.alloc (.cells du.toArray 61):=⟨_,rfl⟩
 have A:F.heap.size=w.heap.size+1:=by rw[y];simp
 have aR:Below w.heap.size w F:=by rw[y];exact bO _ _
 have H:Cs F w.heap.size du:=by rw[y];exact Cs.new w du _
 have J:=hid (Fk s F hs (by omega) (Q.belowB h6 aR));rw[y]at J;have K:=hid y;have HB:=hid (And.intro aR H);clear y Q aR H;generalize hR:Wr.whole (dK ah 1000 s.data.toList)=N at*;go_enter func97,ntmps97
 go_wp2_with fail;refine J.out.mono ?_
 rintro e w1 ⟨M,z⟩;rw[←K.out]at M z;obtain⟨aR,H⟩:=HB.out
 have d:=H.below z;have I:Below w.heap.size w w1:=aR.trans (z.mono (by omega));have I0:=z.size;have S:=d.cell 0 rfl;have x0:=d.fr 0;have T:=d.cell 1 rfl;have x1:=d.fr 1;have al:=d.cell 2 rfl;have aY:=d.fr 2;have U:=d.cell 3 rfl;have x3:=d.fr 3;have V:=d.cell 4 rfl;have x4:=d.fr 4;have X:=d.cell 5 rfl;have x5:=d.fr 5;have Y:=d.cell 6 rfl;have x6:=d.fr 6;have Z:=d.cell 7 rfl;have x7:=d.fr 7;have y8:=d.cell 8 rfl;have x8:=d.fr 8;have y9:=d.cell 9 rfl;have x9:=d.fr 9;have f:=Nat.le_refl w.heap.size;have G:=hid I;clear I z H aR J;cases N with
 |none=>
  cases M
  go_wp2_with fail;refine bodyPost_ret (v:= .tuple #[.agg du.toArray,.int .i64 1]) (by simp[results,results97,go_sem,S,T,al,U,V,X,Y,Z,y8,y9]) rfl ⟨rfl,?_⟩
  exact(G.out|>.setCell (p:=⟨w.heap.size,0,none⟩) f _|>.setCell (p:=⟨w.heap.size,1,none⟩) f _|>.setCell (p:=⟨w.heap.size,2,none⟩) f _|>.setCell (p:=⟨w.heap.size,3,none⟩) f _|>.setCell (p:=⟨w.heap.size,4,none⟩) f _|>.setCell (p:=⟨w.heap.size,5,none⟩) f _|>.setCell (p:=⟨w.heap.size,6,none⟩) f _|>.setCell (p:=⟨w.heap.size,7,none⟩) f _|>.setCell (p:=⟨w.heap.size,8,none⟩) f _|>.setCell (p:=⟨w.heap.size,9,none⟩) f _)
 |some q=>
  obtain⟨v1,rfl,P⟩:=M
  have O:=hid P;obtain⟨vc,rfl,E⟩:=O.out
  obtain⟨av,lv,cv,rfl⟩:=E.shape
  clear E;clear P;go_wp2_with fail;refine bodyPost_ret (v:= .tuple #[.agg #[.int .i64 q.kind,.string q.who,.string q.fo,.string q.name,.string q.key,.string q.text,.int .i64 q.num,.int .i64 q.off,.int .i64 q.base,.slice av lv cv],.int .i64 0]) (by simp[results,results97,go_sem,S,T,al,U,V,X,Y,Z,y8,y9]) rfl ⟨⟨_,rfl,?_⟩,?_⟩
  · exact(O.out|>.set (by rw[A];omega) 0 _|>.set (by rw[A];omega) 1 _|>.set (by rw[A];omega) 2 _|>.set (by rw[A];omega) 3 _|>.set (by rw[A];omega) 4 _|>.set (by rw[A];omega) 5 _|>.set (by rw[A];omega) 6 _|>.set (by rw[A];omega) 7 _|>.set (by rw[A];omega) 8 _|>.set (by rw[A];omega) 9 _).low (by rw[A];omega)
  · exact(G.out|>.setCell (p:=⟨w.heap.size,0,none⟩) f _|>.setCell (p:=⟨w.heap.size,1,none⟩) f _|>.setCell (p:=⟨w.heap.size,2,none⟩) f _|>.setCell (p:=⟨w.heap.size,3,none⟩) f _|>.setCell (p:=⟨w.heap.size,4,none⟩) f _|>.setCell (p:=⟨w.heap.size,5,none⟩) f _|>.setCell (p:=⟨w.heap.size,6,none⟩) f _|>.setCell (p:=⟨w.heap.size,7,none⟩) f _|>.setCell (p:=⟨w.heap.size,8,none⟩) f _|>.setCell (p:=⟨w.heap.size,9,none⟩) f _)
theorem Fm (L:List En) (v:Value) (p q t:ByteArray) (b n:Int) (w:World) (hv:an w v L) (hs: ∀e∈L,e.path.size≤1000000000) (hp:p.size≤1000000000) (hq:q.size≤1000000000) (ht:t.size≤1000000000) (hL:Pp.Good L) (hc:aQ ⟨2,p,q,t,b⟩=0) (H0:Hid (aP L (aC p.data.toList)=0)) (j:Nat) (hj:j<L.length) (HI:Hid (db L p.data.toList=(j:Int))) (hx:(L[j]).folder=false):
    Calls prog 129 #[v,.agg #[.int .i64 2,.string p,.string q,.string t,.int .i64 b],.int .i64 n] w fun e w'=> ∃u,e= .returned (.tuple #[u,.int .i64 (cz L ⟨2,p,q,t,b⟩ n)])∧(cz L ⟨2,p,q,t,b⟩ n=0→an w' u (cQ L ⟨2,p,q,t,b⟩ n))∧Below w.heap.size w w':=by
 obtain⟨aZ,J0,J3,J4,J5⟩:=info_parts Tryz.infoE
 have HV:=hid hv;have HC:=hid hc;have HS:=hid hs;have HR:=hid hL.rise;have IW:=hid hL;have IT:L.length≤60:=hL.len;have IN: -1≤b:=(kH hc).2.2.2.1;have J2:t.size≤1000000000:=by exact ht
 have HE:=hid (show gx L ⟨2,p,q,t,b⟩ n=if 60<(cL (Pp.newE ⟨2,p,q,t,b⟩ n) L).length+1 then 2 else 0 from if_pos (Or.inr rfl));have HQ:=hid (show cQ L ⟨2,p,q,t,b⟩ n=cg (Pp.newE ⟨2,p,q,t,b⟩ n) (cL (Pp.newE ⟨2,p,q,t,b⟩ n) L)from if_pos (Or.inr rfl));obtain⟨a,IX,rfl,IS,IP,Ix⟩:=hv
 have HL:Hid (∀i (h:i<L.length),∃b o,a=some ⟨b,o,none⟩∧b<w.heap.size∧dp w b (o+i*4) L[i]):=Ix;obtain⟨C,hC⟩: ∃C:ay,C=⟨2,p,q,t,b⟩:=⟨_,rfl⟩
 rw[←hC]at HC HE HQ⊢;have Q:=hid hC;clear hC Ix hL hs hc;go_enter func129,ntmps129
 go_wp2_with fail;refine(gP _ p q _ b _ hp hq (by omega)).mono ?_
 rintro e w1 ⟨rfl,F⟩;rw[←Q.out,HC.out];obtain⟨V,P,X,Y,T,f,z⟩:=aw F
 go_wp2_with fail;refine(gB p _ hp).mono ?_
 rintro e w2 ⟨rfl,IA⟩;have H:=F.trans (IA.mono F.size);clear V P X Y T f z F IA;obtain⟨V,P,X,Y,T,f,z⟩:=aw H
 go_wp2_with fail;refine(gD L _ ⟨(aC p.data.toList).toArray⟩ _ (HV.out.below f)).mono ?_
 rintro e w3 ⟨rfl,IB⟩;rw[show aP L _=0 from H0.out];have I:=H.trans (IB.mono H.size);clear V P X Y T f z H IB;obtain⟨V,P,X,Y,T,f,z⟩:=aw I
 go_wp2_with fail;refine(fR L _ p _ (HV.out.below f)).mono ?_
 rintro e w4 ⟨rfl,IC⟩;rw[HI.out];have I0:=I.trans (IC.mono I.size);clear V P X Y T f z I IC;obtain⟨V,P,X,Y,T,f,z⟩:=aw I0
 obtain⟨b',o',rfl,IE,IG⟩:=HL.out j hj
 have J1:(j:Int)<L.length:=by omega
 obtain⟨d0,d1,d2,d3⟩:=IG.below IE f
 rw[hx]at d1;clear d0 d2 d3 IG IE;have HB:=hid I0;go_wp2_with fail;clear V P X Y T f z;go_loopw [11] (fun i wr=> ∃m:Nat,m≤L.length∧i= .int .i64 m∧Hid (∀j (h:j<L.length),j<m→dd p.data.toList b L[j]=false)∧Below w4.heap.size w4 wr) (fun i _=>L.length-(intOf i).toNat)
 case atStart=>exact⟨0,Nat.zero_le _,rfl,(fun j _ h=>absurd h (Nat.not_lt_zero _): ∀j (h:j<L.length),j<0→dd p.data.toList b L[j]=false),Below.refl _ _⟩
 case round=>
  obtain⟨m,hm,rfl,HP,E⟩:=hrel
  have I6:=HB.out.trans (E.mono HB.out.size);obtain⟨V,P,X,Y,T,f,z⟩:=aw I6
  by_cases IH:m<L.length∧0≤b
  · obtain⟨Z,IM⟩:=IH
    obtain⟨b1,o1,Iy,F,he⟩:=HL.out m Z
    first|subst Iy|(have Iz:=Option.some.inj Iy;injection Iz with e1 aE e3;have IK:=e1.symm;have IL:=aE.symm;subst IK;subst IL)
    obtain⟨d0,d1,d2,d3⟩:=he.below F f
    have I9:b1<wr.heap.size:=Nat.lt_of_lt_of_le F f.size;cases O:aU (L[m]).path.data.toList p.data.toList with
    |false=>
     have I7:=hid O;have N:=hid (nI (b:=b) (e:=L[m]) O);clear O;go_wp2_with fail;refine wp_region_held_drew (S:=fun W=>W.cell? ⟨b1,o1+m*4,none⟩=some (.string L[m].path)∧W.cell? ⟨w.heap.size,1,none⟩=some (.string p)) (by kernel_rfl) ⟨by simpa using d0,by simpa using P⟩ (fun d=>?_)
     refine wpAnyH_take (i:=0) (oi:=⟨some 103,Op.move (Operand.tmp 0),44,_,_,none⟩) (v:=?_) rfl (by kernel_rfl) (by kernel_rfl) (by kernel_rfl) (fun _ _ _ h=>h) (Or.inl ⟨by rfl,?_⟩) d ?_
     rotate_left
     · (intro W y;obtain⟨s0,s1⟩:=y;go_simp<;>with_reducible rfl)
     simp only[Act.put,List.setIfInBounds_toArray,List.set_cons_zero,List.set_cons_succ];refine wpAnyH_take (i:=1) (oi:=⟨some 104,Op.move (Operand.tmp 11),3,_,_,none⟩) (v:=?_) rfl (by kernel_rfl) (by kernel_rfl) (by kernel_rfl) (fun _ _ _ h=>h) (Or.inl ⟨by rfl,?_⟩) d ?_
     rotate_left
     · (intro W y;obtain⟨s0,s1⟩:=y;go_simp<;>with_reducible rfl)
     simp only[Act.put,List.setIfInBounds_toArray,List.set_cons_zero,List.set_cons_succ];refine wpAnyH_take (i:=2) (oi:=⟨some 105,Op.indexAddr 44 (Operand.tmp 103) (Operand.tmp 104),0,_,_,none⟩) (v:=?_) rfl (by kernel_rfl) (by kernel_rfl) (by kernel_rfl) (fun _ _ _ h=>h) (Or.inl ⟨by rfl,?_⟩) d ?_
     rotate_left
     · (intro W y;obtain⟨s0,s1⟩:=y;go_simp<;>with_reducible rfl)
     simp only[Act.put,List.setIfInBounds_toArray,List.set_cons_zero,List.set_cons_succ];refine wpAnyH_take (i:=3) (oi:=⟨some 106,Op.fieldAddr 107 (Operand.tmp 105) 0,0,_,_,none⟩) (v:=?_) rfl (by kernel_rfl) (by kernel_rfl) (by kernel_rfl) (fun _ _ _ h=>h) (Or.inl ⟨by rfl,?_⟩) d ?_
     rotate_left
     · (intro W y;obtain⟨s0,s1⟩:=y;go_simp<;>with_reducible rfl)
     simp only[Act.put,List.setIfInBounds_toArray,List.set_cons_zero,List.set_cons_succ];refine wpAnyH_take (i:=4) (oi:=⟨some 107,Op.load 9 (Operand.tmp 106),9,_,_,none⟩) (v:=?_) rfl (by kernel_rfl) (by kernel_rfl) (by kernel_rfl) (fun _ _ _ h=>h) (Or.inl ⟨by rfl,?_⟩) d ?_
     rotate_left
     · (intro W y;obtain⟨s0,s1⟩:=y;go_simp<;>with_reducible rfl)
     simp only[Act.put,List.setIfInBounds_toArray,List.set_cons_zero,List.set_cons_succ];refine wpAnyH_take (i:=5) (oi:=⟨some 108,Op.fieldAddr 72 (Operand.tmp 4) 1,0,_,_,none⟩) (v:=?_) rfl (by kernel_rfl) (by kernel_rfl) (by kernel_rfl) (fun _ _ _ h=>h) (Or.inl ⟨by rfl,?_⟩) d ?_
     rotate_left
     · (intro W y;obtain⟨s0,s1⟩:=y;go_simp<;>with_reducible rfl)
     simp only[Act.put,List.setIfInBounds_toArray,List.set_cons_zero,List.set_cons_succ];refine wpAnyH_take (i:=6) (oi:=⟨some 109,Op.load 9 (Operand.tmp 108),9,_,_,none⟩) (v:=?_) rfl (by kernel_rfl) (by kernel_rfl) (by kernel_rfl) (fun _ _ _ h=>h) (Or.inl ⟨by rfl,?_⟩) d ?_
     rotate_left
     · (intro W y;obtain⟨s0,s1⟩:=y;go_simp<;>with_reducible rfl)
     simp only[Act.put,List.setIfInBounds_toArray,List.set_cons_zero,List.set_cons_succ];refine wpAnyH_ready (rs:=[7]) (by kernel_rfl) (by simp) ?_
     refine AllReadyH.cons (o:=⟨some 110,Op.call ⟨Callee.value (Operand.func 163),#[Operand.tmp 107,Operand.tmp 109],#[9,9]⟩,4,_,_,none⟩) rfl (fun K hK=>?_) AllReadyH.nil
     go_simp
     refine(fX L[m].path p _ (HS.out _ (List.getElem_mem Z)) hp).mono ?_
     rintro e U ⟨rfl,A⟩;rw[I7.out];have k1:U.cell? ⟨b1,o1+m*4,none⟩=some (.string L[m].path):=(A.cell (p:=⟨b1,o1+m*4,none⟩) I9).trans d0;have k2:U.cell? ⟨w.heap.size,1,none⟩=some (.string p):=(A.cell (p:=⟨w.heap.size,1,none⟩) z).trans P;go_wp2_with fail;refine hK.out _ _ ⟨k1,k2⟩ (fun d=>?_)
     clear hK K;try simp only[Act.put,List.setIfInBounds_toArray,List.set_cons_zero,List.set_cons_succ]
     refine wpAnyH_take (i:=8) (oi:=⟨some 111,Op.move (Operand.tmp 110),4,_,_,none⟩) (v:=?_) rfl (by kernel_rfl) (by kernel_rfl) (by kernel_rfl) (fun _ _ _ h=>h) (Or.inl ⟨by rfl,?_⟩) d ?_
     rotate_left
     · (intro W y;obtain⟨s0,s1⟩:=y;go_simp<;>with_reducible rfl)
     simp only[Act.put,List.setIfInBounds_toArray,List.set_cons_zero,List.set_cons_succ];refine mu (g:=8) (dg:=111) (by kernel_rfl) (by kernel_rfl) (fun _ _ _ _ _ h=>h) d (fuel:=1) [(9,112),(10,113),(11,114),(12,115),(13,116),(14,117),(15,118),(16,119)] _ _ (by kernel_rfl) (by kernel_rfl) ?_
     simp only[lD,lE,Act.put,List.setIfInBounds_toArray,List.set_cons_zero,List.set_cons_succ];refine wpAnyH_take (i:=17) (oi:=⟨some 120,Op.pick (Operand.tmp 111) (Operand.tmp 119) (Operand.const (Value.bool false)),4,_,_,none⟩) (v:=?_) rfl (by kernel_rfl) (by kernel_rfl) (by kernel_rfl) (fun _ _ _ h=>h) (Or.inl ⟨by rfl,?_⟩) d ?_
     rotate_left
     · (intro W y;obtain⟨s0,s1⟩:=y;go_simp<;>with_reducible rfl)
     simp only[Act.put,List.setIfInBounds_toArray,List.set_cons_zero,List.set_cons_succ];refine wpAnyH_done (by kernel_rfl) ?_ _
     have G:Below w4.heap.size w4 U:=E.drew.trans (A.mono E.drew.size);go_wp2_with fail;go_roundw
     case rel=>exact⟨m+1,by omega,by simp,(fun j h1 h2=>by
      by_cases e:j=m
      · subst e;exact N.out
      · exact HP.out j h1 (by omega): ∀j (h:j<L.length),j<m+1→dd p.data.toList b L[j]=false),G⟩
     case measure=>simp[intOf];omega
    |true=>
     have I7:=hid O;have HY:=hid (show b<(L[m]).ver→ ∀(k:Int) (q t:ByteArray),dP L ⟨k,p,q,t,b⟩=true from fun J k q t=>nH IM Z O J);clear O;go_wp2_with fail
     go_region_held3 (fun W=>W.cell? ⟨b1,o1+m*4,none⟩=some (.string L[m].path)∧W.cell? ⟨w.heap.size,1,none⟩=some (.string p)∧W.cell? ⟨b1,o1+m*4+3,none⟩=some (.int .i64 L[m].ver)∧W.cell? ⟨w.heap.size,4,none⟩=some (.int .i64 b)) (go_keep) (first
      |(go_at_call 163;refine(fX L[m].path p _ (HS.out _ (List.getElem_mem Z)) hp).mono ?_;rintro e U ⟨rfl,A⟩;rw[I7.out];have k1:U.cell? ⟨b1,o1+m*4,none⟩=some (.string L[m].path):=(A.cell (p:=⟨b1,o1+m*4,none⟩) I9).trans d0;have k2:U.cell? ⟨w.heap.size,1,none⟩=some (.string p):=(A.cell (p:=⟨w.heap.size,1,none⟩) z).trans P;have k3:U.cell? ⟨b1,o1+m*4+3,none⟩=some (.int .i64 L[m].ver):=(A.cell (p:=⟨b1,o1+m*4+3,none⟩) I9).trans d3;have k4:U.cell? ⟨w.heap.size,4,none⟩=some (.int .i64 b):=(A.cell (p:=⟨w.heap.size,4,none⟩) z).trans T))
     by_cases J:b<(L[m]).ver
     · have N:=hid (HY.out J)
       have IF:Below w.heap.size w U:=f.drew.trans (A.mono f.drew.size);go_wp2_with fail;go_ret2;exact⟨_,by rw[cz,if_pos (by rw[Q.out];exact N.out _ _ _)];rfl,fun h=>by rw[cz,if_pos (by rw[Q.out];exact N.out _ _ _)]at h;exact absurd h (by decide),IF⟩
     · have N:=hid (nJ (p:=p.data.toList) (b:=b) (e:=L[m]) J)
       have G:Below w4.heap.size w4 U:=E.drew.trans (A.mono E.drew.size);go_wp2_with fail;go_roundw
       case rel=>exact⟨m+1,by omega,by simp,(fun j h1 h2=>by
        by_cases e:j=m
        · subst e;exact N.out
        · exact HP.out j h1 (by omega): ∀j (h:j<L.length),j<m+1→dd p.data.toList b L[j]=false),G⟩
       case measure=>simp[intOf];omega
  · have hN:dP L C=false:=by
     rw[Q.out];exact nG IN (fun j h h0=>HP.out j h (by omega))
    have HN:=hid hN;have II: ¬m<L.length∨(m<L.length∧ ¬0≤b):=by omega
    clear hN IH HP hm;rcases II with II|⟨IU,IV⟩
    all_goals
     go_wp2_with fail;refine(oH L _ ⟨p,false,t,n⟩ _ (HV.out.below f) (by omega)).mono ?_
     rintro e w6 ⟨u,rfl,ho,ID⟩;have HO:=hid (show w6.ownsRow wr.heap.size 107 4 u (Pp.putR (Pp.newE C n) L).length (cr (Pp.putR (Pp.newE C n) L))from by rw[Q.out];exact ho);have I5:Below w.heap.size w w6:=f.trans (ID.mono f.size);clear ho ID V P X Y T I6 E f z;rw[oG HR.out]at HO;have hM:=rN (Pp.newE C n) (cL (Pp.newE C n) L);have hO:(cL (Pp.newE C n) L).length≤L.length:=List.length_filter_le _ _;rw[←HQ.out]at HO hM;obtain⟨M,I8⟩: ∃M,M=cQ L C n:=⟨_,rfl⟩
     rw[←I8]at HO hM;have IJ:=hid I8;clear I8;have Iv:=hid (kP HO.out (by omega));obtain⟨a6,IQ,rfl,IZ,IR,_⟩:=Iv.out
     by_cases IY:60<M.length
     · have Iw:60<(M.length:Int):=by omega
       have HX:=hid (show cz L C n=2 from by rw[cz,if_neg (by rw[HN.out];decide),HE.out,if_pos (by omega)]);clear hM hO HO;go_wp2_with fail;go_ret2;exact⟨_,by rw[HX.out];rfl,fun h=>absurd (HX.out.symm.trans h) (by decide),I5⟩
     · have Iw: ¬60<(M.length:Int):=by omega
       have HX:=hid (show cz L C n=0 from by rw[cz,if_neg (by rw[HN.out];decide),HE.out,if_neg (by omega)]);clear hM hO HO;go_wp2_with fail;go_ret2;exact⟨_,by rw[HX.out];rfl,fun _=>by rw[←IJ.out];exact Iv.out,I5⟩
end Go.Proofs.YtcmlnelpcjfocaaGreatDoor
