/- What world.playing answers: a world's player, in memory of its own. -/
import Derived.Test.YtgamnckfmmbjdaaGreatDoorWGZI
import Derived.Test.YtgamnckfmmbjdaaGreatDoorWGZJ
import Derived.Test.YtgamnckfmmbjdaaGreatDoorWGZK
set_option linter.unusedSimpArgs false
set_option linter.unusedVariables false
namespace Go.Proofs.YtgamnckfmmbjdaaGreatDoor
open Go.RowKit Go.Maps Go.Proofs.Tryz
set_option maxHeartbeats 8000000
set_option maxRecDepth 100000
theorem A0 {H:Hb} (h:ae H=0):H.fos.length≤1000∧(∀s∈H.fos,s.jo.cos.length≤1000∧s.jo.base.length≤1000∧ ∀c∈s.jo.cos,c.ch.length≤1000000000)∧H.gs.length≤1000∧H.ss.length≤1000:=by
 obtain⟨_,a,d,_,e⟩:=yU h
 refine⟨by have:=(kE a).1;omega,fun s f=>rU (rT a f).2,by have:=(lF d).1;omega,by have:=(lo (qV e).1).1;omega⟩
theorem sI: ∀{l:List Cn},bY l=0→ ∀c∈l,aU c=0
 |[],_,c,hc=>by cases hc
 |x::r,h,c,hc=>by
  rw[bY]at h;by_cases a:aU x=0
  · rw[if_neg (fun y=>y a)]at h
    rcases List.mem_cons.1 hc with rfl|hc
    · exact a
    · exact sI h c hc
  · rw[if_pos a]at h
    exact absurd h a
theorem A1 {l:List Cn} (h:dH l=0): ∀c∈l,c.base.length≤1000000∧c.mine.length≤1000000∧c.ask.length≤1000000:=by
 have e:bY l=0:=by
  rw[dH]at h;by_cases d:bY l=0
  · exact d
  · rw[if_pos d]at h;exact h
 intro c o;obtain⟨_,f,j,_,a⟩:=qE (sI e c o)
 refine⟨by have:=((gx _).1 f).len;omega,by have:=((gx _).1 j).len;omega,?_⟩
 rw[dp]at a;by_cases u:20<c.ask.length
 · rw[if_pos u]at a
   split at a
   · cases a
   · split at a
     · cases a
     · cases a
 · omega
theorem dJ.nbo {B g:Nat} {w w':World} {v:Value} {W:Wd} (h:dJ B w v W) (d:w.grownBy w' (some g)) (a:g<B):dJ B w' v W:=by
 obtain⟨H,I,ag,G,J,e,⟨u,⟨y,j⟩,z,o⟩,A,E,f,F⟩:=h
 exact⟨H,I,ag,G,J,e,⟨u.nbo d a,⟨dv.2 ((dv.1 y).nbo d (bh j a)),j.nb d (bh j a)⟩,dG.2 ((dG.1 z).nbo d (bh o a)),o.nb d (bh o a)⟩,A.nbo d a,iF.2 ((iF.1 E).nbo d (bh f a)),f.nb d (bh f a),F.kept d (ox f a)⟩
theorem dJ.mono {B d:Nat} {w:World} {v:Value} {W:Wd} (h:dJ B w v W) (a:d≤B):dJ d w v W:=by
 obtain⟨H,I,ag,G,J,e,⟨f,⟨j,z⟩,o,A⟩,u,y,E,F⟩:=h
 exact⟨H,I,ag,G,J,e,⟨f.mono a,⟨j,z.mono a⟩,o,A.mono a⟩,u.mono a,y,E.mono a,F.mono a⟩
theorem dJ.shape {B:Nat} {w:World} {v:Value} {W:Wd} (h:dJ B w v W): ∃d f o u G H J K M N,v= .agg #[.slice d W.hb.fos.length f,.slice o W.hb.gs.length u,.slice G W.hb.ss.length H,.int .i64 W.hb.nx,.int .i64 W.hb.la,.int .i64 W.hb.ro,.int .i64 W.hb.now,.slice J W.cls.length K,.slice M W.les.length N]:=by
 obtain⟨Z,vg,ag,Y,vl,rfl,⟨y,⟨z,_⟩,A,_⟩,E,F,_⟩:=h
 obtain⟨I,j,⟨a,c,e,_⟩,_⟩:=y
 rw[ff j.1]at e;subst e;obtain⟨O,T,rfl,_⟩:=z
 obtain⟨P,U,rfl,_⟩:=A
 obtain⟨Q,V,rfl⟩:=E.lies.shape
 obtain⟨S,X,rfl⟩:=F.shape
 exact⟨_,_,_,_,_,_,_,_,_,_,rfl⟩
def A2 (td:ByteArray→Int) (W:Wd) (v:Value) (w:World) (e:Ending) (w':World):Prop:=
 (¬bU td W=0∧e= .returned (.tuple #[.pointer none,.int .i64 (bU td W)]))∨
 (bU td W=0∧e= .returned (.tuple #[.pointer (some ⟨w.heap.size+1,0,none⟩),.int .i64 0])∧ ∃fb fd gb gd sb sd xb xd yb yd,Cs w' (w.heap.size+1) [.slice fb W.hb.fos.length fd,.slice gb W.hb.gs.length gd,.slice sb W.hb.ss.length sd,.int .i64 W.hb.nx,.int .i64 W.hb.la,.int .i64 W.hb.ro,.int .i64 W.hb.now,.slice xb W.cls.length xd,.slice yb W.les.length yd]∧dJ (w.heap.size+2) w' (.agg #[.slice fb W.hb.fos.length fd,.slice gb W.hb.gs.length gd,.slice sb W.hb.ss.length sd,.int .i64 W.hb.nx,.int .i64 W.hb.la,.int .i64 W.hb.ro,.int .i64 W.hb.now,.slice xb W.cls.length xd,.slice yb W.les.length yd]) W∧(kH v= .slice none 0 0→Value.slice yb W.les.length yd= .slice none 0 0))
theorem oH (E:ByteArray→Int) (W:Wd) (v:Value) (w:World) (hv:di w v W) (hs:iD W) (CU: ∀x∈W.les,x.ans=true→oE E) (h6:5<w.heap.size) (CV:aR w):
    Calls prog 8 #[v] w fun e w'=>A2 E W v w e w'∧Below w.heap.size w w':=by
 obtain⟨H,l,m⟩:=W
 have Db:=hid hv;obtain⟨vf,vg,ag,vc,vl,rfl,⟨lf,lg,aG⟩,lc,ll⟩:=hv
 simp only at lf lg aG lc ll;have CZ:=hid (show cp w (.agg #[vf,vg,ag,.int .i64 H.nx,.int .i64 H.la,.int .i64 H.ro,.int .i64 H.now]) H from⟨vf,vg,ag,rfl,lf,lg,aG⟩);have CY:=hid lc;have D3:=hid ll;have D7:=hid hs.hb;have D6:=hid hs.cls;have D8:=hid hs.les;have D9:=hid CU;have Da:=hid (fun X (hW:Below w.heap.size w X)=>CV.belowB h6 hW);have H6:=hid h6;obtain⟨fa,fc,rfl,_⟩:=lf
 obtain⟨ga,gc,rfl,_⟩:=lg
 obtain⟨sa,sc,rfl,_⟩:=aG
 obtain⟨xa,xc,rfl⟩:=lc.shape
 obtain⟨ya,yc,rfl⟩:=ll.shape
 clear lc ll hs CU CV h6;obtain⟨wz,K⟩: ∃wz,wz=(w.alloc (.cells #[.slice fa H.fos.length fc,.slice ga H.gs.length gc,.slice sa H.ss.length sc,.int .i64 H.nx,.int .i64 H.la,.int .i64 H.ro,.int .i64 H.now,.slice xa l.length xc,.slice ya m.length yc] 32)).alloc (.cells #[.slice fa H.fos.length fc,.slice ga H.gs.length gc,.slice sa H.ss.length sc,.int .i64 H.nx,.int .i64 H.la,.int .i64 H.ro,.int .i64 H.now,.slice xa l.length xc,.slice ya m.length yc] 44):=⟨_,rfl⟩
 have CN:Below w.heap.size w wz:=by rw[K];exact((Below.refl _ _).alloc (Nat.le_refl _) _).alloc (by simp) _
 have HX:=hid (show Cs wz w.heap.size [.slice fa H.fos.length fc,.slice ga H.gs.length gc,.slice sa H.ss.length sc,.int .i64 H.nx,.int .i64 H.la,.int .i64 H.ro,.int .i64 H.now,.slice xa l.length xc,.slice ya m.length yc]from by rw[K];exact(Cs.new w [.slice fa H.fos.length fc,.slice ga H.gs.length gc,.slice sa H.ss.length sc,.int .i64 H.nx,.int .i64 H.la,.int .i64 H.ro,.int .i64 H.now,.slice xa l.length xc,.slice ya m.length yc] _).below ((Below.refl _ _).alloc (Nat.le_refl _) _))
 have O:=hid (show Cs wz (w.heap.size+1) [.slice fa H.fos.length fc,.slice ga H.gs.length gc,.slice sa H.ss.length sc,.int .i64 H.nx,.int .i64 H.la,.int .i64 H.ro,.int .i64 H.now,.slice xa l.length xc,.slice ya m.length yc]from by
  have:=Cs.new (w.alloc (.cells #[.slice fa H.fos.length fc,.slice ga H.gs.length gc,.slice sa H.ss.length sc,.int .i64 H.nx,.int .i64 H.la,.int .i64 H.ro,.int .i64 H.now,.slice xa l.length xc,.slice ya m.length yc] 32)) [.slice fa H.fos.length fc,.slice ga H.gs.length gc,.slice sa H.ss.length sc,.int .i64 H.nx,.int .i64 H.la,.int .i64 H.ro,.int .i64 H.now,.slice xa l.length xc,.slice ya m.length yc] 44
  rw[K];simpa using this)
 have CE:=hid K.symm;have Df:w.heap.size+1<wz.heap.size:=O.out.lt;clear K;go_enter func8,ntmps8
 go_upto_region 2 with fail;rw[CE.out];clear CE;have p0:=O.out.cell 0 rfl;have p1:=O.out.cell 1 rfl;have p2:=O.out.cell 2 rfl;have p3:=O.out.cell 3 rfl;have p4:=O.out.cell 4 rfl;have p5:=O.out.cell 5 rfl;have p6:=O.out.cell 6 rfl;go_wp2_with fail;refine(AK H _ wz (CZ.out.below CN) D7.out).mono ?_
 rintro e w1 ⟨rfl,C8⟩;have z:=af CN C8;have CF:=hid (HX.out.below C8);have P:=hid (O.out.below C8);clear p0 p1 p2 p3 p4 p5 p6
 by_cases Z:ae H=0
 · have H0:=hid Z
   obtain⟨CP,CQ,CR,CS⟩:=A0 Z
   have N:=hid (And.intro CP (And.intro CQ (And.intro CR CS)));rw[Z];clear Z CP CQ CR CS;have p7:=P.out.cell 7 rfl;have p8:=P.out.cell 8 rfl;by_cases hC:4<l.length
   · have f:=hid (show bU E ⟨H,l,m⟩=2∧ ¬(2:Int)=0 from⟨by rw[bU,if_neg (fun x=>x H0.out),if_pos (Or.inl hC)],by decide⟩)
     have S:4<(l.length:Int):=by omega
     go_wp2_with fail;go_ret2;exact⟨Or.inl ⟨by rw[f.out.1];exact f.out.2,by rw[f.out.1];rfl⟩,z⟩
   by_cases hM:30<m.length
   · have f:=hid (show bU E ⟨H,l,m⟩=2∧ ¬(2:Int)=0 from⟨by rw[bU,if_neg (fun x=>x H0.out),if_pos (Or.inr hM)],by decide⟩)
     have S: ¬4<(l.length:Int):=by omega
     have C6:30<(m.length:Int):=by omega
     go_wp2_with fail;go_ret2;exact⟨Or.inl ⟨by rw[f.out.1];exact f.out.2,by rw[f.out.1];rfl⟩,z⟩
   have CC:=hid (And.intro hC hM);have S: ¬4<(l.length:Int):=by omega
   have C6: ¬30<(m.length:Int):=by omega
   have CH: ¬(4<l.length∨30<m.length):=fun h=>h.elim hC hM
   have C5:=hid CH;clear hC hM CH;go_wp2_with fail;refine(zT l _ w1 (CY.out.below z) D6.out).mono ?_
   rintro e w2 ⟨rfl,C9⟩;have C3:=af z C9;have Dc:=hid (CF.out.below C9);have Q:=hid (P.out.below C9);clear p7 p8 CF P;by_cases A:dH l=0
   · have C4:=hid A
     rw[A];clear A S C6;have p8:=Q.out.cell 8 rfl
     have D4:=hid (show∀i (h:i<m.length),∃b o,ya=some ⟨b,o,none⟩∧b<w.heap.size∧kF w b (o+i*4) m[i]from by
      obtain⟨a,c,e,_,_,h⟩:=D3.out
      injection e with ay e2 e3
      subst ay;exact h)
     go_wp2_with fail;go_loopw [53] (fun i wr=> ∃k:Nat,k≤m.length∧i= .int .i64 k∧Hid (dL E l.length (m.take k)=0)∧Below w2.heap.size w2 wr) (fun i _=>m.length-(intOf i).toNat)
     case atStart=>exact⟨0,Nat.zero_le _,rfl,(rfl:dL E l.length (m.take 0)=0),Below.refl _ _⟩
     case round=>
      obtain⟨k,hk,rfl,HP,j⟩:=hrel
      have G:=af C3 j;by_cases I:k<m.length
      · obtain⟨b,o,rfl,Dd,he⟩:=D4.out k I
        obtain⟨c0,c1,c2,c3⟩:=he.below Dd G
        obtain⟨wl,Y⟩: ∃X,X=wr.alloc (.cells #[.int .i64 m[k].fr,.int .i64 m[k].kind,.bool m[k].ans,.string m[k].tx] 66):=⟨_,rfl⟩
        have U:Below wr.heap.size wr wl:=by rw[Y];exact(Below.refl _ _).alloc (Nat.le_refl _) _
        have M:=hid (show Cs wl wr.heap.size [.int .i64 m[k].fr,.int .i64 m[k].kind,.bool m[k].ans,.string m[k].tx] by rw[Y];exact Cs.new wr [.int .i64 m[k].fr,.int .i64 m[k].kind,.bool m[k].ans,.string m[k].tx] _);have F:=af G U;clear he;go_upto_region 13 with fail;try simp only[World.setCell_alloc_new]
        rw[←Y];clear Y c0 c1 c2 c3;have bD:=M.out.cell 0 rfl;have q1:=M.out.cell 1 rfl;have bP:=M.out.cell 2 rfl;have q3:=M.out.cell 3 rfl;go_wp2_with fail;refine(AI E m[k] (w.heap.size+1) l.length _ _ wl ((Q.out.below (af j U)).cell 7 rfl) (by have:=F.size;have:=(Q.out.below (af j U)).lt;omega) (D9.out m[k] (List.getElem_mem I)) (by have:=D8.out m[k] (List.getElem_mem I);exact this) (by have:=H6.out;have:=F.size;omega) (Da.out wl F)).mono ?_
        rintro e w3 ⟨rfl,CL⟩;have CI:=af F CL;have CK:=af (af j U) CL;clear bD q1 bP q3;by_cases hz:dj E l.length m[k]=0
        · have D5:=hid (sA I HP.out hz)
          rw[hz];clear hz;go_wp2_with fail;go_roundw
          case rel=>exact⟨k+1,by omega,by simp,D5,CK⟩
          case measure=>simp[intOf];omega
        · have f:=hid (show bU E ⟨H,l,m⟩=dj E l.length m[k]∧ ¬dj E l.length m[k]=0 from⟨by rw[bU,if_neg (fun x=>x H0.out),if_neg C5.out,if_neg (fun x=>x C4.out)];exact sy I HP.out hz,hz⟩)
          have CW:(dj E l.length m[k] !=0)=true:=by simpa using hz
          clear hz;go_wp2_with fail;go_ret2;exact⟨Or.inl ⟨by rw[f.out.1];exact f.out.2,by rw[f.out.1];rfl⟩,CI⟩
      · have f:=hid (show bU E ⟨H,l,m⟩=0 from by
         have:=HP.out
         rw[List.take_of_length_le (by omega)]at this;rw[bU,if_neg (fun x=>x H0.out),if_neg C5.out,if_neg (fun x=>x C4.out)];exact this)
        have y:=hid (Dc.out.below j);have CG:=hid (Q.out.below j);have p0:=y.out.cell 0 rfl;have p1:=y.out.cell 1 rfl;have p2:=y.out.cell 2 rfl;have p3:=y.out.cell 3 rfl;have p4:=y.out.cell 4 rfl;have p5:=y.out.cell 5 rfl;have p6:=y.out.cell 6 rfl;have p7:=y.out.cell 7 rfl;have p8:=y.out.cell 8 rfl;go_wp2_with fail;refine(zj ⟨H,l,m⟩ _ _ (Db.out.below G) N.out.1 N.out.2.1 N.out.2.2.1 N.out.2.2.2 (by have:=CC.out.1;simp only;omega) (A1 C4.out) (by have:=CC.out.2;simp only;omega)).mono ?_
        rintro e w9 ⟨u,rfl,T,hN,CM⟩;obtain⟨fb,fd,gb,gd,sb,sd,xb,xd,yb,yd,rfl⟩:=T.shape
        simp only at T⊢;have d:=hid (CG.out.below CM);have CX:=hid f.out;have CJ:=af G CM;have CT:w.heap.size+1<_:=CG.out.lt;have bD:=d.out.cell 0 rfl;have q1:=d.out.cell 1 rfl;have bP:=d.out.cell 2 rfl;have q3:=d.out.cell 3 rfl;have q4:=d.out.cell 4 rfl;have q5:=d.out.cell 5 rfl;have q6:=d.out.cell 6 rfl;have q7:=d.out.cell 7 rfl;have q8:=d.out.cell 8 rfl;have f0:=d.out.fr 0;have f1:=d.out.fr 1;have f2:=d.out.fr 2;have f3:=d.out.fr 3;have f4:=d.out.fr 4;have f5:=d.out.fr 5;have f6:=d.out.fr 6;have f7:=d.out.fr 7;have f8:=d.out.fr 8;obtain⟨De,J⟩: ∃X,X=(((((((((w9.setCell ⟨(w.heap.size+1),0,none⟩ (.slice fb H.fos.length fd)).setCell ⟨(w.heap.size+1),1,none⟩ (.slice gb H.gs.length gd)).setCell ⟨(w.heap.size+1),2,none⟩ (.slice sb H.ss.length sd)).setCell ⟨(w.heap.size+1),3,none⟩ (.int .i64 H.nx)).setCell ⟨(w.heap.size+1),4,none⟩ (.int .i64 H.la)).setCell ⟨(w.heap.size+1),5,none⟩ (.int .i64 H.ro)).setCell ⟨(w.heap.size+1),6,none⟩ (.int .i64 H.now)).setCell ⟨(w.heap.size+1),7,none⟩ (.slice xb l.length xd)).setCell ⟨(w.heap.size+1),8,none⟩ (.slice yb m.length yd)):=⟨_,rfl⟩
        have V:=jh d.out (.slice fb H.fos.length fd) (.slice gb H.gs.length gd) (.slice sb H.ss.length sd) (.int .i64 H.nx) (.int .i64 H.la) (.int .i64 H.ro) (.int .i64 H.now) (.slice xb l.length xd) (.slice yb m.length yd);rw[←J]at V;have HR:=hid V.1;have CO:=V.2;have HN:=hid hN;have CD:=hid ((T.nbo CO CT).mono (show w.heap.size+2≤_ from CT));have C7:Below w.heap.size w De:=by rw[J];exact(((((((((CJ.setCell (p:=⟨w.heap.size+1,0,none⟩) (Nat.le_succ _) _).setCell (p:=⟨w.heap.size+1,1,none⟩) (Nat.le_succ _) _).setCell (p:=⟨w.heap.size+1,2,none⟩) (Nat.le_succ _) _).setCell (p:=⟨w.heap.size+1,3,none⟩) (Nat.le_succ _) _).setCell (p:=⟨w.heap.size+1,4,none⟩) (Nat.le_succ _) _).setCell (p:=⟨w.heap.size+1,5,none⟩) (Nat.le_succ _) _).setCell (p:=⟨w.heap.size+1,6,none⟩) (Nat.le_succ _) _).setCell (p:=⟨w.heap.size+1,7,none⟩) (Nat.le_succ _) _).setCell (p:=⟨w.heap.size+1,8,none⟩) (Nat.le_succ _) _)
        clear V p0 p1 p2 p3 p4 p5 p6 p7 p8 T hN;go_wp2_with fail;rw[←J];go_ret2;exact⟨Or.inr ⟨CX.out,rfl,_,_,_,_,_,_,_,_,_,_,HR.out,CD.out,fun h=>HN.out h⟩,C7⟩
   · have f:=hid (show bU E ⟨H,l,m⟩=dH l∧ ¬dH l=0 from⟨by rw[bU,if_neg (fun x=>x H0.out),if_neg C5.out,if_pos A],A⟩)
     have CW:(dH l !=0)=true:=by simpa using A
     clear A S C6;go_wp2_with fail;go_ret2;exact⟨Or.inl ⟨by rw[f.out.1];exact f.out.2,by rw[f.out.1];rfl⟩,C3⟩
 · have f:=hid (show bU E ⟨H,l,m⟩=ae H∧ ¬ae H=0 from⟨by rw[bU,if_pos Z],Z⟩)
   have CW:(ae H !=0)=true:=by simpa using Z
   clear Z;go_wp2_with fail;go_ret2;exact⟨Or.inl ⟨by rw[f.out.1];exact f.out.2,by rw[f.out.1];rfl⟩,z⟩
def lY:Hb:=⟨[],[],[],0,0,0,0⟩
def lZ:Wd:=⟨lY,[],[]⟩
theorem sJ (w:World):di w (.agg #[.slice none 0 0,.slice none 0 0,.slice none 0 0,.int .i64 0,.int .i64 0,.int .i64 0,.int .i64 0,.slice none 0 0,.slice none 0 0]) lZ:=⟨_,_,_,_,_,rfl,⟨lE _,lk _,⟨none,0,rfl,Nat.le_refl _,Nat.zero_le _,fun i h=>absurd h (by simp[lZ,lY])⟩⟩,rV _,oo _⟩
theorem dJ.lies {B:Nat} {w:World} {v:Value} {W:Wd} (h:dJ B w v W):di w v W:=by
 obtain⟨y,z,ag,u,A,e,⟨a,⟨d,_⟩,f,_⟩,j,o,_⟩:=h
 exact⟨y,z,ag,u,A,e,⟨a.lies,d,f⟩,j.lies,o⟩
def ie (e:Int) (W:Wd):Wd:=if e=0 then W else lZ
theorem sK (Y:ByteArray→Int) (H:Hb) (l:List Cn) (v vc:Value) (w:World) (hv:cp w v H) (hc:dh w vc l) (hs:hU H) (N: ∀c∈l,fR c) (h6:5<w.heap.size) (O:aR w):
    Calls prog 4 #[v,vc] w fun e w'=> ∃u,e= .returned (.tuple #[u,.int .i64 (bU Y ⟨H,l,[]⟩)])∧di w' u (ie (bU Y ⟨H,l,[]⟩) ⟨H,l,[]⟩)∧kH u= .slice none 0 0∧Below w.heap.size w w':=by
 obtain⟨vf,vg,ag,rfl,lf,lg,aG⟩:=hv
 have Z:=hid (fun(X:World) (h:Below w.heap.size w X)=>(show di X (.agg #[vf,vg,ag,.int .i64 H.nx,.int .i64 H.la,.int .i64 H.ro,.int .i64 H.now,vc,.slice none 0 0]) ⟨H,l,[]⟩from⟨_,_,_,_,_,rfl,⟨lf.below h,lg.below h,aG.below h⟩,hc.below h,oo _⟩));have C4:=hid (show iD ⟨H,l,[]⟩from⟨hs,N,fun x hx=>by cases hx⟩);have C5:=hid (fun X (hW:Below w.heap.size w X)=>O.belowB h6 hW);obtain⟨P,Q,rfl,_⟩:=lf
 obtain⟨S,T,rfl,_⟩:=lg
 obtain⟨U,V,rfl,_⟩:=aG
 obtain⟨xa,xc,rfl⟩:=hc.shape
 clear hc hs N O;obtain⟨A,y⟩: ∃A,A=(w.alloc (.cells #[.slice P H.fos.length Q,.slice S H.gs.length T,.slice U H.ss.length V,.int .i64 H.nx,.int .i64 H.la,.int .i64 H.ro,.int .i64 H.now] 28)).alloc (.cells #[.slice none 0 0,.slice none 0 0,.slice none 0 0,.int .i64 0,.int .i64 0,.int .i64 0,.int .i64 0,.slice none 0 0,.slice none 0 0] 32):=⟨_,rfl⟩
 have J:Below w.heap.size w A:=by rw[y];exact((Below.refl _ _).alloc (Nat.le_refl _) _).alloc (by simp) _
 have I:=hid (show Cs A w.heap.size [.slice P H.fos.length Q,.slice S H.gs.length T,.slice U H.ss.length V,.int .i64 H.nx,.int .i64 H.la,.int .i64 H.ro,.int .i64 H.now]from by rw[y];exact(Cs.new w [.slice P H.fos.length Q,.slice S H.gs.length T,.slice U H.ss.length V,.int .i64 H.nx,.int .i64 H.la,.int .i64 H.ro,.int .i64 H.now] _).below ((Below.refl _ _).alloc (Nat.le_refl _) _))
 have HY:=hid (show Cs A (w.heap.size+1) [.slice none 0 0,.slice none 0 0,.slice none 0 0,.int .i64 0,.int .i64 0,.int .i64 0,.int .i64 0,.slice none 0 0,.slice none 0 0]from by
  have:=Cs.new (w.alloc (.cells #[.slice P H.fos.length Q,.slice S H.gs.length T,.slice U H.ss.length V,.int .i64 H.nx,.int .i64 H.la,.int .i64 H.ro,.int .i64 H.now] 28)) [.slice none 0 0,.slice none 0 0,.slice none 0 0,.int .i64 0,.int .i64 0,.int .i64 0,.int .i64 0,.slice none 0 0,.slice none 0 0] 32
  rw[y];simpa using this)
 have K:=hid y.symm;have C6:w.heap.size+1<A.heap.size:=HY.out.lt;clear y;obtain⟨E,ae⟩: ∃E,E=bU Y ⟨H,l,[]⟩:=⟨_,rfl⟩
 rw[←ae];have HE:=hid ae;clear ae;go_enter func4,ntmps4
 go_upto_region 1 with fail;rw[K.out];clear K;have p0:=I.out.cell 0 rfl;have p1:=I.out.cell 1 rfl;have p2:=I.out.cell 2 rfl;have p3:=I.out.cell 3 rfl;have p4:=I.out.cell 4 rfl;have p5:=I.out.cell 5 rfl;have p6:=I.out.cell 6 rfl;go_wp2_with fail;refine(oH Y ⟨H,l,[]⟩ _ A (Z.out A J) C4.out (fun x hx=>by cases hx) (by omega) (C5.out A J)).mono ?_
 rintro e w1 ⟨hp,M⟩;have G:=af J M;have a:=hid (HY.out.below M);clear p0 p1 p2 p3 p4 p5 p6;rcases hp with⟨F,rfl⟩|⟨F,rfl,fb,fd,gb,gd,sb,sd,xb,xd,yb,yd,hR,hO,hN⟩
 · rw[←HE.out]at F⊢
   have hz:(E !=0)=true:=by simpa using F
   have HZ:=hid F;clear F;have bD:=a.out.cell 0 rfl;have q1:=a.out.cell 1 rfl;have bP:=a.out.cell 2 rfl;have q3:=a.out.cell 3 rfl;have q4:=a.out.cell 4 rfl;have q5:=a.out.cell 5 rfl;have q6:=a.out.cell 6 rfl;have q7:=a.out.cell 7 rfl;have q8:=a.out.cell 8 rfl;have f0:=a.out.fr 0;have f1:=a.out.fr 1;have f2:=a.out.fr 2;have f3:=a.out.fr 3;have f4:=a.out.fr 4;have f5:=a.out.fr 5;have f6:=a.out.fr 6;have f7:=a.out.fr 7;have f8:=a.out.fr 8;obtain⟨w2,f⟩: ∃X,X=(((((((((w1.setCell ⟨(w.heap.size+1),0,none⟩ (.slice none 0 0)).setCell ⟨(w.heap.size+1),1,none⟩ (.slice none 0 0)).setCell ⟨(w.heap.size+1),2,none⟩ (.slice none 0 0)).setCell ⟨(w.heap.size+1),3,none⟩ (.int .i64 0)).setCell ⟨(w.heap.size+1),4,none⟩ (.int .i64 0)).setCell ⟨(w.heap.size+1),5,none⟩ (.int .i64 0)).setCell ⟨(w.heap.size+1),6,none⟩ (.int .i64 0)).setCell ⟨(w.heap.size+1),7,none⟩ (.slice none 0 0)).setCell ⟨(w.heap.size+1),8,none⟩ (.slice none 0 0)):=⟨_,rfl⟩
   have j:=jh a.out (.slice none 0 0) (.slice none 0 0) (.slice none 0 0) (.int .i64 0) (.int .i64 0) (.int .i64 0) (.int .i64 0) (.slice none 0 0) (.slice none 0 0);rw[←f]at j;have d:=hid j.1;have o:Below w.heap.size w w2:=by rw[f];exact(((((((((G.setCell (p:=⟨w.heap.size+1,0,none⟩) (Nat.le_succ _) _).setCell (p:=⟨w.heap.size+1,1,none⟩) (Nat.le_succ _) _).setCell (p:=⟨w.heap.size+1,2,none⟩) (Nat.le_succ _) _).setCell (p:=⟨w.heap.size+1,3,none⟩) (Nat.le_succ _) _).setCell (p:=⟨w.heap.size+1,4,none⟩) (Nat.le_succ _) _).setCell (p:=⟨w.heap.size+1,5,none⟩) (Nat.le_succ _) _).setCell (p:=⟨w.heap.size+1,6,none⟩) (Nat.le_succ _) _).setCell (p:=⟨w.heap.size+1,7,none⟩) (Nat.le_succ _) _).setCell (p:=⟨w.heap.size+1,8,none⟩) (Nat.le_succ _) _)
   go_wp2_with fail;rw[←f];clear f j bD q1 bP q3 q4 q5 q6 q7 q8 f0 f1 f2 f3 f4 f5 f6 f7 f8;have y0:=d.out.cell 0 rfl;have y1:=d.out.cell 1 rfl;have y2:=d.out.cell 2 rfl;have y3:=d.out.cell 3 rfl;have y4:=d.out.cell 4 rfl;have y5:=d.out.cell 5 rfl;have y6:=d.out.cell 6 rfl;have y7:=d.out.cell 7 rfl;have y8:=d.out.cell 8 rfl;refine bodyPost_ret (v:= .tuple #[.agg #[.slice none 0 0,.slice none 0 0,.slice none 0 0,.int .i64 0,.int .i64 0,.int .i64 0,.int .i64 0,.slice none 0 0,.slice none 0 0],.int .i64 E]) (by simp[results,results4,go_sem,y0,y1,y2,y3,y4,y5,y6,y7,y8]) rfl ⟨_,rfl,?_,rfl,o⟩
   rw[ie,if_neg HZ.out];exact sJ _
 · rw[←HE.out]at F
   have z:=hid hR;have HO:=hid hO;have HZ:=hid F;subst F;have HN:=hid hN;clear hR hO hN;have r0:=z.out.cell 0 rfl;have r1:=z.out.cell 1 rfl;have r2:=z.out.cell 2 rfl;have r3:=z.out.cell 3 rfl;have r4:=z.out.cell 4 rfl;have r5:=z.out.cell 5 rfl;have r6:=z.out.cell 6 rfl;have r7:=z.out.cell 7 rfl;have r8:=z.out.cell 8 rfl;have bD:=a.out.cell 0 rfl;have q1:=a.out.cell 1 rfl;have bP:=a.out.cell 2 rfl;have q3:=a.out.cell 3 rfl;have q4:=a.out.cell 4 rfl;have q5:=a.out.cell 5 rfl;have q6:=a.out.cell 6 rfl;have q7:=a.out.cell 7 rfl;have q8:=a.out.cell 8 rfl;have f0:=a.out.fr 0;have f1:=a.out.fr 1;have f2:=a.out.fr 2;have f3:=a.out.fr 3;have f4:=a.out.fr 4;have f5:=a.out.fr 5;have f6:=a.out.fr 6;have f7:=a.out.fr 7;have f8:=a.out.fr 8;obtain⟨w2,f⟩: ∃X,X=(((((((((w1.setCell ⟨(w.heap.size+1),0,none⟩ (.slice fb H.fos.length fd)).setCell ⟨(w.heap.size+1),1,none⟩ (.slice gb H.gs.length gd)).setCell ⟨(w.heap.size+1),2,none⟩ (.slice sb H.ss.length sd)).setCell ⟨(w.heap.size+1),3,none⟩ (.int .i64 H.nx)).setCell ⟨(w.heap.size+1),4,none⟩ (.int .i64 H.la)).setCell ⟨(w.heap.size+1),5,none⟩ (.int .i64 H.ro)).setCell ⟨(w.heap.size+1),6,none⟩ (.int .i64 H.now)).setCell ⟨(w.heap.size+1),7,none⟩ (.slice xb l.length xd)).setCell ⟨(w.heap.size+1),8,none⟩ (.slice yb 0 yd)):=⟨_,rfl⟩
   have j:=jh a.out (.slice fb H.fos.length fd) (.slice gb H.gs.length gd) (.slice sb H.ss.length sd) (.int .i64 H.nx) (.int .i64 H.la) (.int .i64 H.ro) (.int .i64 H.now) (.slice xb l.length xd) (.slice yb 0 yd);rw[←f]at j;have d:=hid j.1;have C3:=hid (HO.out.nbo j.2 (by omega));have o:Below w.heap.size w w2:=by rw[f];exact(((((((((G.setCell (p:=⟨w.heap.size+1,0,none⟩) (Nat.le_succ _) _).setCell (p:=⟨w.heap.size+1,1,none⟩) (Nat.le_succ _) _).setCell (p:=⟨w.heap.size+1,2,none⟩) (Nat.le_succ _) _).setCell (p:=⟨w.heap.size+1,3,none⟩) (Nat.le_succ _) _).setCell (p:=⟨w.heap.size+1,4,none⟩) (Nat.le_succ _) _).setCell (p:=⟨w.heap.size+1,5,none⟩) (Nat.le_succ _) _).setCell (p:=⟨w.heap.size+1,6,none⟩) (Nat.le_succ _) _).setCell (p:=⟨w.heap.size+1,7,none⟩) (Nat.le_succ _) _).setCell (p:=⟨w.heap.size+1,8,none⟩) (Nat.le_succ _) _)
   go_wp2_with fail;rw[←f];clear f j bD q1 bP q3 q4 q5 q6 q7 q8 f0 f1 f2 f3 f4 f5 f6 f7 f8;have y0:=d.out.cell 0 rfl;have y1:=d.out.cell 1 rfl;have y2:=d.out.cell 2 rfl;have y3:=d.out.cell 3 rfl;have y4:=d.out.cell 4 rfl;have y5:=d.out.cell 5 rfl;have y6:=d.out.cell 6 rfl;have y7:=d.out.cell 7 rfl;have y8:=d.out.cell 8 rfl;refine bodyPost_ret (v:= .tuple #[.agg #[.slice fb H.fos.length fd,.slice gb H.gs.length gd,.slice sb H.ss.length sd,.int .i64 H.nx,.int .i64 H.la,.int .i64 H.ro,.int .i64 H.now,.slice xb l.length xd,.slice yb 0 yd],.int .i64 0]) (by simp[results,results4,go_sem,y0,y1,y2,y3,y4,y5,y6,y7,y8]) rfl ⟨_,rfl,?_,HN.out rfl,o⟩
   rw[ie,if_pos rfl];exact C3.out.lies
def ig (p:Addr):Value→Option (DataW Unit×List MemPlace)
 | .func (.func n) ⟨[.pointer (some q)]⟩ ⟨[]⟩=>if q=p then some (.lit (.int .i64 n),[])else none
 | .nilFunc=>some (.lit (.int .i64 0),[])
 |_=>none
theorem ij (p:Addr) (n:Nat):ig p (.func (.func n) #[.pointer (some p)] #[])=some (.lit (.int .i64 n),[]):=by simp[ig]
theorem A3 {p:Addr} {v:Value} {n:Nat} {e:List MemPlace} (h:ig p v=some (.lit (.int .i64 n),e)) (a: ¬n=0):v= .func (.func n) #[.pointer (some p)] #[]:=by
 unfold ig at h;split at h
 · rename_i m q
   split at h
   · rename_i d
     subst d;simp only[Option.some.injEq,Prod.mk.injEq,DataW.lit.injEq,Lit.int.injEq,true_and]at h;have:m=n:=Int.ofNat.inj h.1
     rw[this]
   · cases h
 · simp only[Option.some.injEq,Prod.mk.injEq,DataW.lit.injEq,Lit.int.injEq,true_and]at h
   exact absurd (Int.ofNat.inj h.1).symm a
 · cases h
def gO (n:Nat):DataW Unit:= .lit (.int .i64 n)
def A4:DataW Unit:=(DataW.map []:DataW Unit).put (.int .i64 1) (gO 57)
def A5:DataW Unit:=A4.put (.int .i64 2) (gO 58)
def A6:DataW Unit:=A5.put (.int .i64 3) (gO 59)
def A7:DataW Unit:=A6.put (.int .i64 4) (gO 60)
def A8:DataW Unit:=A7.put (.int .i64 5) (gO 61)
def A9:DataW Unit:=A8.put (.int .i64 6) (gO 62)
def Ba:DataW Unit:=A9.put (.int .i64 7) (gO 63)
def Bb:DataW Unit:=Ba.put (.int .i64 8) (gO 64)
def kN:DataW Unit:=Bb.put (.int .i64 9) (gO 65)
theorem Bc:Maps.has kN (.int .i64 2)=true:=by decide+kernel
theorem Bd (z:DataW Unit):kN.atKey (.int .i64 2) z=gO 58:=by rfl
theorem Tryz.makeEvents (w:World):(Instr.makeMap 83 none).run prog w= .ok (.map (some w.heap.size)) (w.alloc (.map #[] 0)):=by
 simp[Instr.makeMap,run_underlying underlying83,Result.andThen]
theorem Be (p:Addr) (w:World):
    Calls prog 24 #[.pointer (some p)] w fun e w'=> ∃b,e= .returned (.map (some b))∧w'.ownsMap prog 3 (ig p) b 9 kN∧Below w.heap.size w w':=by
 have C3: ∀(u:Fn) (first cap:Array Value) (w:World),(Instr.makeFunc u first cap).run prog w= .ok (.func u first cap) w:=fun _ _ _ _=>rfl
 have C4:=Tryz.makeEvents;obtain⟨Z,f⟩: ∃X,X=w.alloc (.map #[] 0):=⟨_,rfl⟩
 have j:=World.ownsMap_made w prog 3 (ig p);have aH:Below w.heap.size w Z:=by rw[f];exact(Below.refl _ _).alloc (Nat.le_refl _) _
 rw[←f]at j;have a:=fun(n:Int) (h:(Lit.int .i64 n).wf=true)=>keyOf_int_mk underlying3 h
 have d: ∀n,n≤9→n<maxLen:=fun n h=>by unfold maxLen;omega
 obtain⟨w1,r1,N,y⟩:=j.update (int_keyed underlying3) underlying83 (d 0 (by decide)) (a 1 (by decide)) (ij p 57)
 obtain⟨w2,r2,O,z⟩:=N.update (int_keyed underlying3) underlying83 (d 1 (by decide)) (a 2 (by decide)) (ij p 58)
 obtain⟨w3,r3,P,A⟩:=O.update (int_keyed underlying3) underlying83 (d 2 (by decide)) (a 3 (by decide)) (ij p 59)
 obtain⟨w4,r4,Q,E⟩:=P.update (int_keyed underlying3) underlying83 (d 3 (by decide)) (a 4 (by decide)) (ij p 60)
 obtain⟨w5,r5,S,F⟩:=Q.update (int_keyed underlying3) underlying83 (d 4 (by decide)) (a 5 (by decide)) (ij p 61)
 obtain⟨w6,r6,T,G⟩:=S.update (int_keyed underlying3) underlying83 (d 5 (by decide)) (a 6 (by decide)) (ij p 62)
 obtain⟨w7,r7,U,H⟩:=T.update (int_keyed underlying3) underlying83 (d 6 (by decide)) (a 7 (by decide)) (ij p 63)
 obtain⟨w8,r8,V,I⟩:=U.update (int_keyed underlying3) underlying83 (d 7 (by decide)) (a 8 (by decide)) (ij p 64)
 obtain⟨o,r9,Y,J⟩:=V.update (int_keyed underlying3) underlying83 (d 8 (by decide)) (a 9 (by decide)) (ij p 65)
 have HO:=hid (show o.ownsMap prog 3 (ig p) w.heap.size 9 kN from Y);have K:Z.grownBy o (some w.heap.size):=Nb.trans (Nb.trans (Nb.trans (Nb.trans (Nb.trans (Nb.trans (Nb.trans (Nb.trans y z) A) E) F) G) H) I) J;have HB:=hid (show Below w.heap.size w o from aH.grown K (by rw[f];simp) (fun k M=>by injection M with M;omega));rw[f]at r1;clear j N O P Q S T U V Y y z A E F G H I J K aH a d;go_enter func24,ntmps24
 go_upto_region 1 with fail;go_wp2_with fail;go_ret;exact⟨_,rfl,HO.out,HB.out⟩
end Go.Proofs.YtgamnckfmmbjdaaGreatDoor
