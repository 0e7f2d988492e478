/- What world.playing answers: a world's player, in memory of its own. -/
import Derived.Test.YtcmlnelpcjfocaaGreatDoorWYZI
import Derived.Test.YtcmlnelpcjfocaaGreatDoorWYZL
import Derived.Test.YtcmlnelpcjfocaaGreatDoorWYZJ
set_option linter.unusedSimpArgs false
set_option linter.unusedVariables false
namespace Go.Proofs.YtcmlnelpcjfocaaGreatDoor
open Go.RowKit Go.Proofs.Tryz
set_option maxHeartbeats 8000000
set_option maxRecDepth 100000
theorem F0 {H:Hb} (h:ae H=0):H.fos.length≤1000∧(∀s∈H.fos,s.jo.cos.length≤1000∧s.jo.base.length≤1000∧ ∀c∈s.jo.cos,c.ch.length≤1000000000)∧H.gs.length≤1000∧H.ss.length≤1000:=by
 obtain⟨_,d,f,_,y⟩:=mw h
 refine⟨by have:=(lH d).1;omega,fun s z=>xn (oX d z).2,by have:=(oO f).1;omega,by have:=(oF (wU y).1).1;omega⟩
theorem sW: ∀{l:List Cn},cX l=0→ ∀c∈l,bo c=0
 |[],_,c,hc=>by cases hc
 |x::r,h,c,hc=>by
  rw[cX]at h;by_cases d:bo x=0
  · rw[if_neg (fun y=>y d)]at h
    rcases List.mem_cons.1 hc with rfl|hc
    · exact d
    · exact sW h c hc
  · rw[if_pos d]at h
    exact absurd h d
theorem F3 {l:List Cn} (h:eS l=0): ∀c∈l,c.base.length≤1000000∧c.mine.length≤1000000∧c.ask.length≤1000000:=by
 have y:cX l=0:=by
  rw[eS]at h;by_cases f:cX l=0
  · exact f
  · rw[if_pos f]at h;exact h
 intro c E;obtain⟨_,z,A,_,d⟩:=mh (sW y c E)
 refine⟨by have:=((fP _).1 z).len;omega,by have:=((fP _).1 A).len;omega,?_⟩
 rw[ew]at d;by_cases F:20<c.ask.length
 · rw[if_pos F]at d
   split at d
   · cases d
   · split at d
     · cases d
     · cases d
 · omega
theorem ft.nbo {B g:Nat} {w w':World} {v:Value} {W:Wd} (h:ft B w v W) (f:w.grownBy w' (some g)) (d:g<B):ft B w' v W:=by
 obtain⟨M,N,ai,K,O,e,⟨E,⟨F,z⟩,G,A⟩,H,I,y,J⟩:=h
 exact⟨M,N,ai,K,O,e,⟨E.nbo f d,⟨eR.2 ((eR.1 F).nbo f (bS z d)),z.nb f (bS z d)⟩,fl.2 ((fl.1 G).nbo f (bS A d)),A.nb f (bS A d)⟩,H.nbo f d,kX.2 ((kX.1 I).nbo f (bS y d)),y.nb f (bS y d),J.kept f (sl y d)⟩
theorem ft.mono {B B':Nat} {w:World} {v:Value} {W:Wd} (h:ft B w v W) (d:B'≤B):ft B' w v W:=by
 obtain⟨K,M,ai,J,N,e,⟨f,⟨y,F⟩,z,G⟩,A,E,H,I⟩:=h
 exact⟨K,M,ai,J,N,e,⟨f.mono d,⟨y,F.mono d⟩,z,G.mono d⟩,A.mono d,E,H.mono d,I.mono d⟩
theorem ft.shape {B:Nat} {w:World} {v:Value} {W:Wd} (h:ft B w v W): ∃d f z A J K N O P Q,v= .agg #[.slice d W.hb.fos.length f,.slice z W.hb.gs.length A,.slice J W.hb.ss.length K,.int .i64 W.hb.nx,.int .i64 W.hb.la,.int .i64 W.hb.ro,.int .i64 W.hb.now,.slice N W.cls.length O,.slice P W.les.length Q]:=by
 obtain⟨vf,vg,ai,vc,vl,rfl,⟨E,⟨F,_⟩,G,_⟩,H,I,_⟩:=h
 obtain⟨M,y,⟨a,c,e,_⟩,_⟩:=E
 rw[ij y.1]at e;subst e;obtain⟨S,X,rfl,_⟩:=F
 obtain⟨T,Y,rfl,_⟩:=G
 obtain⟨U,Z,rfl⟩:=H.lies.shape
 obtain⟨V,c5,rfl⟩:=I.shape
 exact⟨_,_,_,_,_,_,_,_,_,_,rfl⟩
def F4 (td:ByteArray→Int) (W:Wd) (v:Value) (w:World) (e:Ending) (w':World):Prop:=
 (¬bY td W=0∧e= .returned (.tuple #[.pointer none,.int .i64 (bY td W)]))∨
 (bY td W=0∧e= .returned (.tuple #[.pointer (some ⟨w.heap.size+1,0,none⟩),.int .i64 0])∧ ∃fb fd gb gd sb sd xb xd yb yd,Cs w' (w.heap.size+1) [.slice fb W.hb.fos.length fd,.slice gb W.hb.gs.length gd,.slice sb W.hb.ss.length sd,.int .i64 W.hb.nx,.int .i64 W.hb.la,.int .i64 W.hb.ro,.int .i64 W.hb.now,.slice xb W.cls.length xd,.slice yb W.les.length yd]∧ft (w.heap.size+2) w' (.agg #[.slice fb W.hb.fos.length fd,.slice gb W.hb.gs.length gd,.slice sb W.hb.ss.length sd,.int .i64 W.hb.nx,.int .i64 W.hb.la,.int .i64 W.hb.ro,.int .i64 W.hb.now,.slice xb W.cls.length xd,.slice yb W.les.length yd]) W∧(nP v= .slice none 0 0→Value.slice yb W.les.length yd= .slice none 0 0))
theorem pw (F:ByteArray→Int) (W:Wd) (v:Value) (w:World) (hv:eI w v W) (hs:iA W) (IP: ∀x∈W.les,x.ans=true→mT F) (h6:5<w.heap.size) (IQ:aX w):
    Calls prog 9 #[v] w fun e w'=>F4 F W v w e w'∧Below w.heap.size w w':=by
 obtain⟨H,l,m⟩:=W
 have J3:=hid hv;obtain⟨vf,vg,ai,vc,vl,rfl,⟨lf,lg,aT⟩,lc,ll⟩:=hv
 simp only at lf lg aT lc ll;have IU:=hid (show dC w (.agg #[vf,vg,ai,.int .i64 H.nx,.int .i64 H.la,.int .i64 H.ro,.int .i64 H.now]) H from⟨vf,vg,ai,rfl,lf,lg,aT⟩);have IT:=hid lc;have IV:=hid ll;have IZ:=hid hs.hb;have IY:=hid hs.cls;have J0:=hid hs.les;have J1:=hid IP;have J2:=hid (fun X (hW:Below w.heap.size w X)=>IQ.belowB h6 hW);have H6:=hid h6;obtain⟨fa,fc,rfl,_⟩:=lf
 obtain⟨ga,gc,rfl,_⟩:=lg
 obtain⟨sa,sc,rfl,_⟩:=aT
 obtain⟨xa,xc,rfl⟩:=lc.shape
 obtain⟨ya,yc,rfl⟩:=ll.shape
 clear lc ll hs IP IQ h6;obtain⟨wz,M⟩: ∃wz,wz=(w.alloc (.cells #[.slice fa H.fos.length fc,.slice ga H.gs.length gc,.slice sa H.ss.length sc,.int .i64 H.nx,.int .i64 H.la,.int .i64 H.ro,.int .i64 H.now,.slice xa l.length xc,.slice ya m.length yc] 32)).alloc (.cells #[.slice fa H.fos.length fc,.slice ga H.gs.length gc,.slice sa H.ss.length sc,.int .i64 H.nx,.int .i64 H.la,.int .i64 H.ro,.int .i64 H.now,.slice xa l.length xc,.slice ya m.length yc] 43):=⟨_,rfl⟩
 have IH:Below w.heap.size w wz:=by rw[M];exact((Below.refl _ _).alloc (Nat.le_refl _) _).alloc (by simp) _
 have HX:=hid (show Cs wz w.heap.size [.slice fa H.fos.length fc,.slice ga H.gs.length gc,.slice sa H.ss.length sc,.int .i64 H.nx,.int .i64 H.la,.int .i64 H.ro,.int .i64 H.now,.slice xa l.length xc,.slice ya m.length yc]from by rw[M];exact(Cs.new w [.slice fa H.fos.length fc,.slice ga H.gs.length gc,.slice sa H.ss.length sc,.int .i64 H.nx,.int .i64 H.la,.int .i64 H.ro,.int .i64 H.now,.slice xa l.length xc,.slice ya m.length yc] _).below ((Below.refl _ _).alloc (Nat.le_refl _) _))
 have P:=hid (show Cs wz (w.heap.size+1) [.slice fa H.fos.length fc,.slice ga H.gs.length gc,.slice sa H.ss.length sc,.int .i64 H.nx,.int .i64 H.la,.int .i64 H.ro,.int .i64 H.now,.slice xa l.length xc,.slice ya m.length yc]from by
  have:=Cs.new (w.alloc (.cells #[.slice fa H.fos.length fc,.slice ga H.gs.length gc,.slice sa H.ss.length sc,.int .i64 H.nx,.int .i64 H.la,.int .i64 H.ro,.int .i64 H.now,.slice xa l.length xc,.slice ya m.length yc] 32)) [.slice fa H.fos.length fc,.slice ga H.gs.length gc,.slice sa H.ss.length sc,.int .i64 H.nx,.int .i64 H.la,.int .i64 H.ro,.int .i64 H.now,.slice xa l.length xc,.slice ya m.length yc] 43
  rw[M];simpa using this)
 have Iy:=hid M.symm;have J7:w.heap.size+1<wz.heap.size:=P.out.lt;clear M;go_enter func9,ntmps9
 go_upto_region 2 with fail;rw[Iy.out];clear Iy;have p0:=P.out.cell 0 rfl;have p1:=P.out.cell 1 rfl;have p2:=P.out.cell 2 rfl;have p3:=P.out.cell 3 rfl;have p4:=P.out.cell 4 rfl;have p5:=P.out.cell 5 rfl;have p6:=P.out.cell 6 rfl;go_wp2_with fail;refine(Fo H _ wz (IU.out.below IH) IZ.out).mono ?_
 rintro e w1 ⟨rfl,I9⟩;have A:=ag IH I9;have Iz:=hid (HX.out.below I9);have Q:=hid (P.out.below I9);clear p0 p1 p2 p3 p4 p5 p6
 by_cases h0:ae H=0
 · have H0:=hid h0
   obtain⟨IJ,IK,IL,IM⟩:=F0 h0
   have O:=hid (And.intro IJ (And.intro IK (And.intro IL IM)));rw[h0];clear h0 IJ IK IL IM;have p7:=Q.out.cell 7 rfl;have p8:=Q.out.cell 8 rfl;by_cases hC:4<l.length
   · have f:=hid (show bY F ⟨H,l,m⟩=2∧ ¬(2:Int)=0 from⟨by rw[bY,if_neg (fun x=>x H0.out),if_pos (Or.inl hC)],by decide⟩)
     have T:4<(l.length:Int):=by omega
     go_wp2_with fail;go_ret2;exact⟨Or.inl ⟨by rw[f.out.1];exact f.out.2,by rw[f.out.1];rfl⟩,A⟩
   by_cases hM:30<m.length
   · have f:=hid (show bY F ⟨H,l,m⟩=2∧ ¬(2:Int)=0 from⟨by rw[bY,if_neg (fun x=>x H0.out),if_pos (Or.inr hM)],by decide⟩)
     have T: ¬4<(l.length:Int):=by omega
     have I7:30<(m.length:Int):=by omega
     go_wp2_with fail;go_ret2;exact⟨Or.inl ⟨by rw[f.out.1];exact f.out.2,by rw[f.out.1];rfl⟩,A⟩
   have Iw:=hid (And.intro hC hM);have T: ¬4<(l.length:Int):=by omega
   have I7: ¬30<(m.length:Int):=by omega
   have IB: ¬(4<l.length∨30<m.length):=fun h=>h.elim hC hM
   have I6:=hid IB;clear hC hM IB;go_wp2_with fail;refine(Fb l _ w1 (IT.out.below A) IY.out).mono ?_
   rintro e w2 ⟨rfl,Iv⟩;have I0:=ag A Iv;have J4:=hid (Iz.out.below Iv);have S:=hid (Q.out.below Iv);clear p7 p8 Iz Q;by_cases E:eS l=0
   · have I5:=hid E
     rw[E];clear E T I7;have p8:=S.out.cell 8 rfl
     have IW:=hid (show∀i (h:i<m.length),∃b o,ya=some ⟨b,o,none⟩∧b<w.heap.size∧kW w b (o+i*4) m[i]from by
      obtain⟨a,c,e,_,_,h⟩:=IV.out
      injection e with e1 aE e3
      subst e1;exact h)
     go_wp2_with fail;go_loopw [53] (fun i wr=> ∃k:Nat,k≤m.length∧i= .int .i64 k∧Hid (el F l.length (m.take k)=0)∧Below w2.heap.size w2 wr) (fun i _=>m.length-(intOf i).toNat)
     case atStart=>exact⟨0,Nat.zero_le _,rfl,(rfl:el F l.length (m.take 0)=0),Below.refl _ _⟩
     case round=>
      obtain⟨k,hk,rfl,HP,y⟩:=hrel
      have I:=ag I0 y;by_cases J:k<m.length
      · obtain⟨b,o,rfl,J5,he⟩:=IW.out k J
        obtain⟨c0,c1,c2,c3⟩:=he.below J5 I
        obtain⟨wl,Z⟩: ∃X,X=wr.alloc (.cells #[.int .i64 m[k].fr,.int .i64 m[k].kind,.bool m[k].ans,.string m[k].tx] 52):=⟨_,rfl⟩
        have V:Below wr.heap.size wr wl:=by rw[Z];exact(Below.refl _ _).alloc (Nat.le_refl _) _
        have N:=hid (show Cs wl wr.heap.size [.int .i64 m[k].fr,.int .i64 m[k].kind,.bool m[k].ans,.string m[k].tx] by rw[Z];exact Cs.new wr [.int .i64 m[k].fr,.int .i64 m[k].kind,.bool m[k].ans,.string m[k].tx] _);have G:=ag I V;clear he;go_upto_region 13 with fail;try simp only[World.setCell_alloc_new]
        rw[←Z];clear Z c0 c1 c2 c3;have br:=N.out.cell 0 rfl;have q1:=N.out.cell 1 rfl;have bZ:=N.out.cell 2 rfl;have q3:=N.out.cell 3 rfl;go_wp2_with fail;refine(FA F m[k] (w.heap.size+1) l.length _ _ wl ((S.out.below (ag y V)).cell 7 rfl) (by have:=G.size;have:=(S.out.below (ag y V)).lt;omega) (J1.out m[k] (List.getElem_mem J)) (by have:=J0.out m[k] (List.getElem_mem J);exact this) (by have:=H6.out;have:=G.size;omega) (J2.out wl G)).mono ?_
        rintro e w3 ⟨rfl,IF⟩;have IC:=ag G IF;have IE:=ag (ag y V) IF;clear br q1 bZ q3;by_cases hz:dv F l.length m[k]=0
        · have IX:=hid (sO J HP.out hz)
          rw[hz];clear hz;go_wp2_with fail;go_roundw
          case rel=>exact⟨k+1,by omega,by simp,IX,IE⟩
          case measure=>simp[intOf];omega
        · have f:=hid (show bY F ⟨H,l,m⟩=dv F l.length m[k]∧ ¬dv F l.length m[k]=0 from⟨by rw[bY,if_neg (fun x=>x H0.out),if_neg I6.out,if_neg (fun x=>x I5.out)];exact sN J HP.out hz,hz⟩)
          have IR:(dv F l.length m[k] !=0)=true:=by simpa using hz
          clear hz;go_wp2_with fail;go_ret2;exact⟨Or.inl ⟨by rw[f.out.1];exact f.out.2,by rw[f.out.1];rfl⟩,IC⟩
      · have f:=hid (show bY F ⟨H,l,m⟩=0 from by
         have:=HP.out
         rw[List.take_of_length_le (by omega)]at this;rw[bY,if_neg (fun x=>x H0.out),if_neg I6.out,if_neg (fun x=>x I5.out)];exact this)
        have z:=hid (J4.out.below y);have IA:=hid (S.out.below y);have p0:=z.out.cell 0 rfl;have p1:=z.out.cell 1 rfl;have p2:=z.out.cell 2 rfl;have p3:=z.out.cell 3 rfl;have p4:=z.out.cell 4 rfl;have p5:=z.out.cell 5 rfl;have p6:=z.out.cell 6 rfl;have p7:=z.out.cell 7 rfl;have p8:=z.out.cell 8 rfl;go_wp2_with fail;refine(DY ⟨H,l,m⟩ _ _ (J3.out.below I) O.out.1 O.out.2.1 O.out.2.2.1 O.out.2.2.2 (by have:=Iw.out.1;simp only;omega) (F3 I5.out) (by have:=Iw.out.2;simp only;omega)).mono ?_
        rintro e w9 ⟨u,rfl,U,hN,IG⟩;obtain⟨fb,fd,gb,gd,sb,sd,xb,xd,yb,yd,rfl⟩:=U.shape
        simp only at U⊢;have d:=hid (IA.out.below IG);have IS:=hid f.out;have ID:=ag I IG;have IN:w.heap.size+1<_:=IA.out.lt;have br:=d.out.cell 0 rfl;have q1:=d.out.cell 1 rfl;have bZ:=d.out.cell 2 rfl;have q3:=d.out.cell 3 rfl;have q4:=d.out.cell 4 rfl;have q5:=d.out.cell 5 rfl;have q6:=d.out.cell 6 rfl;have q7:=d.out.cell 7 rfl;have q8:=d.out.cell 8 rfl;have f0:=d.out.fr 0;have f1:=d.out.fr 1;have f2:=d.out.fr 2;have f3:=d.out.fr 3;have f4:=d.out.fr 4;have f5:=d.out.fr 5;have f6:=d.out.fr 6;have f7:=d.out.fr 7;have f8:=d.out.fr 8;obtain⟨J6,K⟩: ∃X,X=(((((((((w9.setCell ⟨(w.heap.size+1),0,none⟩ (.slice fb H.fos.length fd)).setCell ⟨(w.heap.size+1),1,none⟩ (.slice gb H.gs.length gd)).setCell ⟨(w.heap.size+1),2,none⟩ (.slice sb H.ss.length sd)).setCell ⟨(w.heap.size+1),3,none⟩ (.int .i64 H.nx)).setCell ⟨(w.heap.size+1),4,none⟩ (.int .i64 H.la)).setCell ⟨(w.heap.size+1),5,none⟩ (.int .i64 H.ro)).setCell ⟨(w.heap.size+1),6,none⟩ (.int .i64 H.now)).setCell ⟨(w.heap.size+1),7,none⟩ (.slice xb l.length xd)).setCell ⟨(w.heap.size+1),8,none⟩ (.slice yb m.length yd)):=⟨_,rfl⟩
        have Y:=mx d.out (.slice fb H.fos.length fd) (.slice gb H.gs.length gd) (.slice sb H.ss.length sd) (.int .i64 H.nx) (.int .i64 H.la) (.int .i64 H.ro) (.int .i64 H.now) (.slice xb l.length xd) (.slice yb m.length yd);rw[←K]at Y;have HR:=hid Y.1;have II:=Y.2;have HN:=hid hN;have Ix:=hid ((U.nbo II IN).mono (show w.heap.size+2≤_ from IN));have I8:Below w.heap.size w J6:=by rw[K];exact(((((((((ID.setCell (p:=⟨w.heap.size+1,0,none⟩) (Nat.le_succ _) _).setCell (p:=⟨w.heap.size+1,1,none⟩) (Nat.le_succ _) _).setCell (p:=⟨w.heap.size+1,2,none⟩) (Nat.le_succ _) _).setCell (p:=⟨w.heap.size+1,3,none⟩) (Nat.le_succ _) _).setCell (p:=⟨w.heap.size+1,4,none⟩) (Nat.le_succ _) _).setCell (p:=⟨w.heap.size+1,5,none⟩) (Nat.le_succ _) _).setCell (p:=⟨w.heap.size+1,6,none⟩) (Nat.le_succ _) _).setCell (p:=⟨w.heap.size+1,7,none⟩) (Nat.le_succ _) _).setCell (p:=⟨w.heap.size+1,8,none⟩) (Nat.le_succ _) _)
        clear Y p0 p1 p2 p3 p4 p5 p6 p7 p8 U hN;go_wp2_with fail;rw[←K];go_ret2;exact⟨Or.inr ⟨IS.out,rfl,_,_,_,_,_,_,_,_,_,_,HR.out,Ix.out,fun h=>HN.out h⟩,I8⟩
   · have f:=hid (show bY F ⟨H,l,m⟩=eS l∧ ¬eS l=0 from⟨by rw[bY,if_neg (fun x=>x H0.out),if_neg I6.out,if_pos E],E⟩)
     have IR:(eS l !=0)=true:=by simpa using E
     clear E T I7;go_wp2_with fail;go_ret2;exact⟨Or.inl ⟨by rw[f.out.1];exact f.out.2,by rw[f.out.1];rfl⟩,I0⟩
 · have f:=hid (show bY F ⟨H,l,m⟩=ae H∧ ¬ae H=0 from⟨by rw[bY,if_pos h0],h0⟩)
   have IR:(ae H !=0)=true:=by simpa using h0
   clear h0;go_wp2_with fail;go_ret2;exact⟨Or.inl ⟨by rw[f.out.1];exact f.out.2,by rw[f.out.1];rfl⟩,A⟩
theorem lP.weak {c:ay} (h:lP ah 1000 c):lP aF bf c:=by
 have d: ∀x:ByteArray,(ah x.size=true∧(x.size:Int)≤1000)→aF x.size=true∧(x.size:Int)≤bf:=fun x d=>⟨fZ _ d.1,by unfold bf;omega⟩
 exact⟨fZ _ h.k,fZ _ h.b,d _ h.p,d _ h.q,d _ h.t⟩
theorem mQ.weak {q:Rq} (h:mQ ah 1000 q):mQ aF bf q:=by
 have d: ∀x:ByteArray,(ah x.size=true∧(x.size:Int)≤1000)→aF x.size=true∧(x.size:Int)≤bf:=fun x d=>⟨fZ _ d.1,by unfold bf;omega⟩
 exact⟨fZ _ h.kind,d _ h.who,d _ h.fo,d _ h.name,d _ h.key,d _ h.text,fZ _ h.num,fZ _ h.off,fZ _ h.base,h.ch.1,fun c f=>(h.ch.2 c f).weak⟩
theorem yE:fL (dK aF bf) dE (mQ aF bf):=xR oS (fun n h=>xX n (by omega)) bf
theorem F5 {l:List UInt8} {q:Rq} (h:dK aF bf l=some (q,[])) (d:(cI (Wr.run aL (dE q))).2=0):Wr.whole (dK ah 1000 l)=some q:=by
 rw[sU];refine⟨?_,by simpa using ((yE l q []).1 h).2⟩
 cases f:Wr.ok (dE q)with
 |true=>rfl
 |false=>exact absurd d (xU f).1
theorem F6 {l:List UInt8} {q:Rq} (h:Wr.whole (dK ah 1000 l)=some q):dK aF bf l=some (q,[])∧(cI (Wr.run aL (dE q))).2=0:=by
 obtain⟨d,f⟩:=sU.1 h
 exact⟨(yE l q []).2 ⟨((xW q).1 d).weak,by simpa using f⟩,by rw[mR d]⟩
theorem aV.liesC {B:Nat} {T:TypeId} {cs:List ay} {v:Value} {W:World} (h:aV B T 5 fI cs v W) (G:cs.length≤1000000000000000):cj W v cs:=by
 obtain⟨Z,E,f,y⟩:=h
 rw[nv]
 have e:Z.map (·.2)=cs.map ib:=by
  rw[←E,List.map_map];exact List.map_congr_left (fun z d=>(y z d).1)
 have F:Z.length=(cs.map ib).length:=by rw[←e];simp
 rw[e,F]at f
 exact iN f (by simpa using G) (fun r A=>by
  rw[←e]at A;obtain⟨z,d,rfl⟩:=List.mem_map.1 A
  exact(y z d).2)
theorem F7 (s:ByteArray) (w:World) (hs:s.size≤140737488351232):
    Calls prog 14 #[.string s] w fun e w'=>lR (Wr.whole (dK ah 1000 s.data.toList)) (.agg du.toArray) (gG w.heap.size) e w'∧Below w.heap.size w w':=by
 obtain⟨wa,O⟩: ∃wa,wa=w.alloc (.cells du.toArray 61):=⟨_,rfl⟩
 obtain⟨X,P⟩: ∃X,X=wa.alloc (.cells #[.string s,.int .i64 0,.bool false] 103):=⟨_,rfl⟩
 have sa:wa.heap.size=w.heap.size+1:=by rw[O];simp
 have sb:X.heap.size=w.heap.size+1+1:=by rw[P];simp[sa]
 have J2:Below w.heap.size w wa:=by rw[O];exact bO _ _
 have Iz:Below wa.heap.size wa X:=by rw[P];exact bO _ _
 have Ix:Below w.heap.size w X:=J2.trans (Iz.mono (by omega));have J1:Cs X w.heap.size du:=Cs.below (show Cs wa w.heap.size du by rw[O];exact Cs.new w du _) Iz;have N:Sc (w.heap.size+1) s 0 false X:=by unfold Sc;rw[←sa,P];exact heap_alloc_new wa _
 have H0:=hid (nX du 61 N (Nat.zero_le _));have J7:=hid (show∀W,X.grownBy W (some (w.heap.size+1))→Cs W w.heap.size du from fun W y=>J1.nb y (by omega));have IL:=hid (show∀W,X.grownBy W (some (w.heap.size+1))→Below w.heap.size w W from fun W y=>Ix.trans (lS y (by omega) Ix.size));obtain⟨RC,Iv⟩: ∃x,x=dK aF bf s.data.toList:=⟨_,rfl⟩
 have IN:=hid Iv;have I7:=hid (show RC=dK aF bf (s.data.toList.drop 0)from Iv);conv at I7=>arg 1;rhs;unfold dK
 have HS:=hid hs;have I8:=hid (im (w.heap.size+1) 0 s false _ H0.out.sc H0.out.jl hs);rw[P,O]at I8;have IZ:=hid (show X.alloc (.cells du.toArray 61)=((w.alloc (.cells du.toArray 61)).alloc (.cells #[.string s,.int .i64 0,.bool false] 103)).alloc (.cells du.toArray 61)from by rw[P,O]);rw[sb]at H0;have Jr:=hid sb;obtain⟨W0,Iw⟩: ∃x,x=Wr.whole (dK ah 1000 s.data.toList):=⟨_,rfl⟩
 rw[←Iw];have IY:=hid Iw;clear P O sa sb Iz J2 J1 N Ix Iv hs Iw;go_enter func14,ntmps14
 go_wp2_with fail;refine I8.out.mono ?_
 intro e w1 z;rw[←IZ.out]at z;obtain⟨qk,_,j1,b1,rfl,rfl,p1,A,Jc,y,E,hF⟩:=z.step (fun h=>by cases h) (fun _=>I7.out)
 have H1:=hid (H0.out.call y A Jc);have IP:=hid E;have IC:=hid hF;have y0:=H1.out.cC.cell 0 rfl;have z0:=H1.out.cC.fr 0;clear z A y E hF I7 I8 H0 IZ;go_wp2_with fail;refine(jq (w.heap.size+1) j1 s b1 _ (H1.out.set 0 (.int .i64 qk)).sc (H1.out.set 0 (.int .i64 qk)).jl HS.out).mono ?_
 intro e w2 z;obtain⟨qa,_,j2,b2,rfl,rfl,p2,A,Jd,y,E,hF⟩:=z.step IP.out IC.out
 have H2:=hid ((H1.out.set 0 (.int .i64 qk)).call y A Jd);have IQ:=hid E;have ID:=hid hF;clear z A y E hF IP IC H1 y0 z0;have y1:=H2.out.cC.cell 1 rfl;have z1:=H2.out.cC.fr 1;go_wp2_with fail;refine(jq (w.heap.size+1) j2 s b2 _ (H2.out.set 1 (.string qa)).sc (H2.out.set 1 (.string qa)).jl HS.out).mono ?_
 intro e w3 z;obtain⟨qb,_,j3,dF,rfl,rfl,p3,A,Je,y,E,hF⟩:=z.step IQ.out ID.out
 have H3:=hid ((H2.out.set 1 (.string qa)).call y A Je);have IR:=hid E;have IE:=hid hF;clear z A y E hF IQ ID H2 y1 z1;have al:=H3.out.cC.cell 2 rfl;have z2:=H3.out.cC.fr 2;go_wp2_with fail;refine(jq (w.heap.size+1) j3 s dF _ (H3.out.set 2 (.string qb)).sc (H3.out.set 2 (.string qb)).jl HS.out).mono ?_
 intro e w4 z;obtain⟨qc,_,j4,b4,rfl,rfl,p4,A,Jf,y,E,hF⟩:=z.step IR.out IE.out
 have H4:=hid ((H3.out.set 2 (.string qb)).call y A Jf);have IS:=hid E;have IF:=hid hF;clear z A y E hF IR IE H3 al z2;have y3:=H4.out.cC.cell 3 rfl;have z3:=H4.out.cC.fr 3;go_wp2_with fail;refine(jq (w.heap.size+1) j4 s b4 _ (H4.out.set 3 (.string qc)).sc (H4.out.set 3 (.string qc)).jl HS.out).mono ?_
 intro e w5 z;obtain⟨qd,_,j5,b5,rfl,rfl,p5,A,Jg,y,E,hF⟩:=z.step IS.out IF.out
 have H5:=hid ((H4.out.set 3 (.string qc)).call y A Jg);have IT:=hid E;have IG:=hid hF;clear z A y E hF IS IF H4 y3 z3;have y4:=H5.out.cC.cell 4 rfl;have z4:=H5.out.cC.fr 4;go_wp2_with fail;refine(jq (w.heap.size+1) j5 s b5 _ (H5.out.set 4 (.string qd)).sc (H5.out.set 4 (.string qd)).jl HS.out).mono ?_
 intro e w6 z;obtain⟨qe,_,j6,b6,rfl,rfl,p6,A,Jh,y,E,hF⟩:=z.step IT.out IG.out
 have H6:=hid ((H5.out.set 4 (.string qd)).call y A Jh);have IU:=hid E;have IH:=hid hF;clear z A y E hF IT IG H5 y4 z4;have y5:=H6.out.cC.cell 5 rfl;have z5:=H6.out.cC.fr 5;go_wp2_with fail;refine(im (w.heap.size+1) j6 s b6 _ (H6.out.set 5 (.string qe)).sc (H6.out.set 5 (.string qe)).jl HS.out).mono ?_
 intro e w7 z;obtain⟨qx,_,j7,b7,rfl,rfl,p7,A,Ji,y,E,hF⟩:=z.step IU.out IH.out
 have H7:=hid ((H6.out.set 5 (.string qe)).call y A Ji);have IV:=hid E;have II:=hid hF;clear z A y E hF IU IH H6 y5 z5;have y6:=H7.out.cC.cell 6 rfl;have z6:=H7.out.cC.fr 6;go_wp2_with fail;refine(im (w.heap.size+1) j7 s b7 _ (H7.out.set 6 (.int .i64 qx)).sc (H7.out.set 6 (.int .i64 qx)).jl HS.out).mono ?_
 intro e w8 z;obtain⟨qy,_,j8,b8,rfl,rfl,p8,A,Jj,y,E,hF⟩:=z.step IV.out II.out
 have H8:=hid ((H7.out.set 6 (.int .i64 qx)).call y A Jj);have IW:=hid E;have IJ:=hid hF;clear z A y E hF IV II H7 y6 z6;have y7:=H8.out.cC.cell 7 rfl;have z7:=H8.out.cC.fr 7;go_wp2_with fail;refine(im (w.heap.size+1) j8 s b8 _ (H8.out.set 7 (.int .i64 qy)).sc (H8.out.set 7 (.int .i64 qy)).jl HS.out).mono ?_
 intro e w9 z;obtain⟨qz,_,j9,b9,rfl,rfl,p9,A,Jk,y,E,hF⟩:=z.step IW.out IJ.out
 have H9:=hid ((H8.out.set 7 (.int .i64 qy)).call y A Jk);have IX:=hid E;have IK:=hid hF;clear z A y E hF IW IJ H8 y7 z7;have y8:=H9.out.cC.cell 8 rfl;have z8:=H9.out.cC.fr 8;go_wp2_with fail;refine(yv (w.heap.size+1) j9 s b9 _ (H9.out.set 8 (.int .i64 qz)).sc (H9.out.set 8 (.int .i64 qz)).jl HS.out).mono ?_
 intro e Jm z;obtain⟨qs,vc,Q,T,rfl,M,J6,A,J3,y,E,hF⟩:=z.step IX.out IK.out
 have F:=hid ((H9.out.set 8 (.int .i64 qz)).call y A J3);have I6:=hid E;have I5:=hid hF;have Iy:=(H9.out.set 8 (.int .i64 qz)).cC.lt;have Js:=(H9.out.set 8 (.int .i64 qz)).fr.size;clear z A y E hF IX IK H9 y8 z8;obtain⟨av,lv,cv,rfl⟩:=M.shape
 have Jq:=hid M;have y9:=F.out.cC.cell 9 rfl;have z9:=F.out.cC.fr 9;obtain⟨wq,I0⟩: ∃wq,wq=Jm.setCell ⟨w.heap.size+1+1,9,none⟩ (.slice av lv cv):=⟨_,rfl⟩
 have HG:=hid (F.out.set 9 (.slice av lv cv));have K:=M.setC (g:=w.heap.size+1+1) Iy 9 (.slice av lv cv);rw[←I0]at HG K;have I9:=hid K;obtain⟨q,hq⟩: ∃q:Rq,q=⟨qk,qa,qb,qc,qd,qe,qx,qy,qz,qs⟩:=⟨_,rfl⟩
 have IM:=hid hq;have J4:qs.length≤1000000000000000:=by have:=J6.1;omega
 have J8:=hid (show jV wq (.agg #[.int .i64 qk,.string qa,.string qb,.string qc,.string qd,.string qe,.int .i64 qx,.int .i64 qy,.int .i64 qz,.slice av lv cv]) q from⟨.slice av lv cv,by rw[hq],by rw[hq];exact K.liesC J4⟩);have Ja:=hid (show pe q from by rw[hq];exact⟨p1,p7,p8,p9,p2,p3,p4,p5,p6,J6.2⟩);have HQ:=hid (And.intro (show T=true→RC=none from I6.out) (show T=false→RC=some (q,s.data.toList.drop Q)from fun h=>by rw[I5.out h,hq];rfl));have Y:=hid (FH q _ wq J8.out Ja.out);have y0:=F.out.cC.cell 0 rfl;have y1:=F.out.cC.cell 1 rfl;have al:=F.out.cC.cell 2 rfl;have y3:=F.out.cC.cell 3 rfl;have y4:=F.out.cC.cell 4 rfl;have y5:=F.out.cC.cell 5 rfl;have y6:=F.out.cC.cell 6 rfl;have y7:=F.out.cC.cell 7 rfl;have y8:=F.out.cC.cell 8 rfl;rw[I0]at Y;have Jb:=hid I0;clear M K I6 I5 hq F I0;obtain⟨tx,J5⟩: ∃t,t=(cI (Wr.run aL (dE q))).1:=⟨_,rfl⟩
 obtain⟨er,IA⟩: ∃e0,e0=(cI (Wr.run aL (dE q))).2:=⟨_,rfl⟩
 rw[←J5,←IA]at Y;have IB:=hid IA;clear J5 IA;go_wp2_with fail;refine Y.out.mono ?_
 rintro e Jp ⟨rfl,G⟩;rw[←Jb.out]at G;have N:=HG.out.sc.below G;have d:=(J7.out wq HG.out.fr).below G;have Z:=hid ((IL.out wq HG.out.fr).trans (G.mono (IL.out wq HG.out.fr).size));have J9:=hid (show gG (w.heap.size+1+1) q (.agg #[.int .i64 qk,.string qa,.string qb,.string qc,.string qd,.string qe,.int .i64 qx,.int .i64 qy,.int .i64 qz,.slice av lv cv]) Jp from⟨_,by rw[IM.out],by rw[IM.out];exact(I9.out.belowC G).low (by omega)⟩);have H:=HG.out.cC.below G;have c1:=N.cs.cell 1 rfl;have c2:=N.cs.cell 2 rfl;have k0:=H.cell 0 rfl;have V:=H.cell 1 rfl;have k2:=H.cell 2 rfl;have k3:=H.cell 3 rfl;have k4:=H.cell 4 rfl;have k5:=H.cell 5 rfl;have k6:=H.cell 6 rfl;have k7:=H.cell 7 rfl;have k8:=H.cell 8 rfl;have k9:=H.cell 9 rfl;have r0:=d.cell 0 rfl;have x0:=d.fr 0;have r1:=d.cell 1 rfl;have x1:=d.fr 1;have r2:=d.cell 2 rfl;have aY:=d.fr 2;have r3:=d.cell 3 rfl;have x3:=d.fr 3;have r4:=d.cell 4 rfl;have x4:=d.fr 4;have r5:=d.cell 5 rfl;have x5:=d.fr 5;have r6:=d.cell 6 rfl;have x6:=d.fr 6;have r7:=d.cell 7 rfl;have x7:=d.fr 7;have r8:=d.cell 8 rfl;have x8:=d.fr 8;have r9:=d.cell 9 rfl;have x9:=d.fr 9;have f:=Nat.le_refl w.heap.size;have I:w.heap.size<w.heap.size+1+1:=by omega
 have J:=hid (show(T=true∨ ¬Q=s.size∨ ¬er=0)→W0=none from fun U=>by
  cases hw:W0 with
  |none=>rfl
  |some q'=>
   have Jl:=IY.out.symm.trans hw;obtain⟨V,k2⟩:=F6 Jl
   rw[←IN.out]at V;rcases U with U|U
   · rw[HQ.out.1 U]at V;cases V
   · cases hb:T with
     |true=>rw[HQ.out.1 hb]at V;cases V
     |false=>
      rw[HQ.out.2 hb]at V;simp only[Option.some.injEq,Prod.mk.injEq]at V;rcases U with U|U
      · have h1:=congrArg List.length V.2
        rw[List.length_drop,←Lib.size_eq]at h1;simp only[List.length_nil]at h1;have:=HG.out.jl
        exact absurd (by omega) U
      · rw[IB.out,V.1]at U;exact absurd k2 U)
 clear N d H G Y y0 y1 al y3 y4 y5 y6 y7 y8;cases hb:T with
 |true=>
  have S:=hid (J.out (Or.inl hb));rw[hb]at c2;go_wp2_with fail;refine bodyPost_ret (v:= .tuple #[.agg du.toArray,.int .i64 1]) (by simp[results,results14,go_sem,r0,r1,r2,r3,r4,r5,r6,r7,r8,r9]) rfl ⟨?_,?_⟩
  · rw[S.out];rfl
  · exact(Z.out|>.setCell (p:=⟨w.heap.size,0,none⟩) f _|>.setCell (p:=⟨w.heap.size,1,none⟩) f _|>.setCell (p:=⟨w.heap.size,2,none⟩) f _|>.setCell (p:=⟨w.heap.size,3,none⟩) f _|>.setCell (p:=⟨w.heap.size,4,none⟩) f _|>.setCell (p:=⟨w.heap.size,5,none⟩) f _|>.setCell (p:=⟨w.heap.size,6,none⟩) f _|>.setCell (p:=⟨w.heap.size,7,none⟩) f _|>.setCell (p:=⟨w.heap.size,8,none⟩) f _|>.setCell (p:=⟨w.heap.size,9,none⟩) f _)
 |false=>
 rw[hb]at c2;by_cases hj:Q=s.size
 · by_cases he:er=0
   · have n1:((Q:Int) !=s.size)=false:=by rw[hj];simp
     have n2:(er !=0)=false:=by rw[he];rfl
     have J0:=hid (show W0=some q from by
      rw[IY.out];refine F5 ?_ (by rw[←IB.out];exact he)
      rw[←IN.out,HQ.out.2 hb,hj,List.drop_eq_nil_of_le (by rw[←Lib.size_eq];exact Nat.le_refl _)])
     clear J hj he;go_wp2_with fail;refine bodyPost_ret (v:= .tuple #[.agg #[.int .i64 qk,.string qa,.string qb,.string qc,.string qd,.string qe,.int .i64 qx,.int .i64 qy,.int .i64 qz,.slice av lv cv],.int .i64 0]) (by simp[results,results14,go_sem,r0,r1,r2,r3,r4,r5,r6,r7,r8,r9]) rfl ⟨?_,?_⟩
     · rw[J0.out]
       exact⟨_,rfl,(J9.out|>.set I 0 _|>.set I 1 _|>.set I 2 _|>.set I 3 _|>.set I 4 _|>.set I 5 _|>.set I 6 _|>.set I 7 _|>.set I 8 _|>.set I 9 _).low (by omega)⟩
     · exact(Z.out|>.setCell (p:=⟨w.heap.size,0,none⟩) f _|>.setCell (p:=⟨w.heap.size,1,none⟩) f _|>.setCell (p:=⟨w.heap.size,2,none⟩) f _|>.setCell (p:=⟨w.heap.size,3,none⟩) f _|>.setCell (p:=⟨w.heap.size,4,none⟩) f _|>.setCell (p:=⟨w.heap.size,5,none⟩) f _|>.setCell (p:=⟨w.heap.size,6,none⟩) f _|>.setCell (p:=⟨w.heap.size,7,none⟩) f _|>.setCell (p:=⟨w.heap.size,8,none⟩) f _|>.setCell (p:=⟨w.heap.size,9,none⟩) f _)
   · have n1:((Q:Int) !=s.size)=false:=by rw[hj];simp
     have n2:(er !=0)=true:=by simpa using he
     have S:=hid (J.out (Or.inr (Or.inr he)));clear J hj he;go_wp2_with fail;refine bodyPost_ret (v:= .tuple #[.agg du.toArray,.int .i64 1]) (by simp[results,results14,go_sem,r0,r1,r2,r3,r4,r5,r6,r7,r8,r9]) rfl ⟨?_,?_⟩
     · rw[S.out];rfl
     · exact(Z.out|>.setCell (p:=⟨w.heap.size,0,none⟩) f _|>.setCell (p:=⟨w.heap.size,1,none⟩) f _|>.setCell (p:=⟨w.heap.size,2,none⟩) f _|>.setCell (p:=⟨w.heap.size,3,none⟩) f _|>.setCell (p:=⟨w.heap.size,4,none⟩) f _|>.setCell (p:=⟨w.heap.size,5,none⟩) f _|>.setCell (p:=⟨w.heap.size,6,none⟩) f _|>.setCell (p:=⟨w.heap.size,7,none⟩) f _|>.setCell (p:=⟨w.heap.size,8,none⟩) f _|>.setCell (p:=⟨w.heap.size,9,none⟩) f _)
 · have n1:((Q:Int) !=s.size)=true:=by simp;omega
   have S:=hid (J.out (Or.inr (Or.inl hj)));clear J hj;go_wp2_with fail;refine bodyPost_ret (v:= .tuple #[.agg du.toArray,.int .i64 1]) (by simp[results,results14,go_sem,r0,r1,r2,r3,r4,r5,r6,r7,r8,r9]) rfl ⟨?_,?_⟩
   · rw[S.out];rfl
   · exact(Z.out|>.setCell (p:=⟨w.heap.size,0,none⟩) f _|>.setCell (p:=⟨w.heap.size,1,none⟩) f _|>.setCell (p:=⟨w.heap.size,2,none⟩) f _|>.setCell (p:=⟨w.heap.size,3,none⟩) f _|>.setCell (p:=⟨w.heap.size,4,none⟩) f _|>.setCell (p:=⟨w.heap.size,5,none⟩) f _|>.setCell (p:=⟨w.heap.size,6,none⟩) f _|>.setCell (p:=⟨w.heap.size,7,none⟩) f _|>.setCell (p:=⟨w.heap.size,8,none⟩) f _|>.setCell (p:=⟨w.heap.size,9,none⟩) f _)
end Go.Proofs.YtcmlnelpcjfocaaGreatDoor
