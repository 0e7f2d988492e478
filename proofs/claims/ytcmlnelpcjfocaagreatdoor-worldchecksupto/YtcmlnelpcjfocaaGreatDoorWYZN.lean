/- Rows that were read, as trees and commits that lie in memory. -/
import Derived.Test.YtcmlnelpcjfocaaGreatDoorWYZK
import Derived.Test.YtcmlnelpcjfocaaGreatDoorWYZM
set_option linter.unusedSimpArgs false
set_option linter.unusedVariables false
namespace Go.Proofs.YtcmlnelpcjfocaaGreatDoor
open Go.RowKit Go.ChangeShapes Go.WideShapes Go.ChangeAt Go.Proofs.Tryz
set_option maxHeartbeats 4000000
set_option maxRecDepth 100000
theorem aV.rows {B:Nat} {T:TypeId} {n:Nat} {d:Type} {V:d→List Value→World→Prop} {xs:List d} {v:Value} {W:World} (h:aV B T n V xs v W) (O:xs.length≤1000000000000000):
    ∃a f,v= .slice a xs.length f∧xs.length≤f∧ ∀i (h:i<xs.length),∃b o r,a=some ⟨b,o,none⟩∧b<W.heap.size∧V xs[i] r W∧ ∀c u,r[c]?=some u→W.cell? ⟨b,o+i*n+c,none⟩=some u:=by
 obtain⟨Z,y,M,I⟩:=h
 have H:(Z.map (·.2)).length=xs.length:=by rw[←y];simp
 have A:aW n W v (Z.map (·.2)):=iN (by simpa using M) (by rw[H];exact O) (fun r P=>by
  obtain⟨z,S,rfl⟩:=List.mem_map.1 P
  exact(I z S).2)
 obtain⟨a,f,K,J,_,_,A⟩:=A
 rw[H]at K J;refine⟨a,f,K,J,fun i F=>?_⟩
 have G:i<Z.length:=by rw[←y]at F;simpa using F
 obtain⟨b,o,N,hb,Q⟩:=A i (by rw[H];exact F)
 refine⟨b,o,Z[i].2,N,hb,?_,fun c u E=>Q c u (by simpa using E)⟩
 have e:xs[i]=Z[i].1:=by simp[←y]
 rw[e];exact(I _ (List.getElem_mem G)).1
theorem aV.lies_en {B:Nat} {xs:List En} {v:Value} {W:World} (h:aV B 107 4 ff xs v W) (y:xs.length≤1000000000000000):an W v xs:=by
 obtain⟨a,f,G,E,z⟩:=h.rows y
 refine⟨a,f,G,E,y,fun i F=>?_⟩
 obtain⟨b,o,r,A,hb,rfl,d⟩:=z i F
 exact⟨b,o,A,hb,d 0 _ rfl,d 1 _ rfl,d 2 _ rfl,d 3 _ rfl⟩
theorem dM.lies {B:Nat} {cs:List Co} {v:Value} {W:World} (h:dM B cs v W) (E:cs.length≤1000000000000000) (H: ∀c∈cs,c.ch.length≤1000000000000000):eG W v cs:=by
 obtain⟨a,y,I,d,F⟩:=aV.rows h E
 refine⟨a,y,I,d,E,fun i A=>?_⟩
 obtain⟨b,o,r,G,hb,⟨J,rfl,f⟩,z⟩:=F i A
 exact⟨b,o,G,hb,z 0 _ rfl,z 1 _ rfl,J,z 2 _ rfl,f.liesC (H _ (List.getElem_mem A))⟩
theorem fO.lies {B:Nat} {a:An} {v:Value} {W:World} (h:fO B a v W) (d:a.pg.tree.length≤1000000000000000) (f:a.pg.cos.length≤1000000000000000) (y: ∀c∈a.pg.cos,c.ch.length≤1000000000000000):jJ W v a:=by
 obtain⟨F,E,rfl,A,z⟩:=h
 exact⟨F,E,rfl,A.lies_en d,z.lies f y⟩
theorem Gz {s:Ws} (h:s.mn=true): ∀x:aN,(Wr.putR s x).mn=true
 | .n n=>by simp only[Wr.putR,bv];split<;>exact h
 | .t x=>by simp only[Wr.putR,eM];split<;>first|rfl|exact h
 | .big=>rfl
theorem yU: ∀(l:List aN) {s:Ws},s.mn=true→(cA s l).mn=true
 |[],_,h=>h
 |x::l,_,h=>yU l (Gz h x)
theorem yV {l:List aN} {s:Ws} (h:aN.big∈l):(cA s l).mn=true:=by
 obtain⟨a,b,rfl⟩:=List.append_of_mem h
 rw[mS,lT];exact yU b rfl
theorem yW {d:Type} {m:Nat} {f:d→List aN} {l:List d} (h: ¬l.length≤m):aN.big∈Wr.lst m f l:=by rw[Wr.lst,if_neg h];simp
theorem th (b:Nat) (s:Ws) (x:Bool) (w:World) (h:RW b s w) (d:s.l.length≤1000000000):
    Calls prog 71 #[.pointer (some ⟨b,0,none⟩),.bool x] w fun e w'=>e= .returned (.tuple #[])∧RW b (bv s (if x=true then 1 else 0)) w'∧w.grownBy w' (some b):=by
 cases x with
 |true=>
  have y:=hid (fM b s 1 w h ⟨by omega,by omega⟩ d);clear h;go_enter func71,ntmps71
  go_wp2_with fail;refine y.out.mono ?_
  rintro e A ⟨rfl,z,f⟩;go_wp2_with fail;go_end0
  exact⟨rfl,z,f⟩
 |false=>
  have y:=hid (fM b s 0 w h ⟨by omega,by omega⟩ d);clear h;go_enter func71,ntmps71
  go_wp2_with fail;refine y.out.mono ?_
  rintro e A ⟨rfl,z,f⟩;go_wp2_with fail;go_end0
  exact⟨rfl,z,f⟩
theorem GA (A:An) (v:Value) (w:World) (hq:jJ w v A) (hz:xM A):
    Calls prog 43 #[v] w fun e w'=>e= .returned (.tuple #[.string (cI (Wr.run aL (ee A))).1,.int .i64 (cI (Wr.run aL (ee A))).2])∧Below w.heap.size w w':=by
 rw[yr (sM (ee A) (⟨rfl,rfl,fun _=>rfl⟩:Wr.Alike aL aL))];obtain⟨vt,vc,rfl,lt,lc⟩:=hq
 obtain⟨ta,tc,rfl,Js,Jt,hT⟩:=lt
 obtain⟨ca,cc,rfl,Jl,Jm,hC⟩:=lc
 obtain⟨er,nu,X,T,C,Q,V⟩:=A
 simp only at Js Jt hT Jl Jm hC⊢;obtain⟨wa,Iw⟩: ∃wa,wa=w.alloc (.cells #[.int .i64 er,.int .i64 nu,.bool X,.slice ta T.length tc,.slice ca C.length cc,.int .i64 Q,.bool V] 57):=⟨_,rfl⟩
 obtain⟨wb,Ix⟩: ∃wb,wb=wa.alloc (.cells #[.string ⟨#[]⟩,.bool false,.bool false] 150):=⟨_,rfl⟩
 obtain⟨M,IB⟩: ∃wc,wc=wb.alloc (.cells #[.bool X,.slice ta T.length tc,.slice ca C.length cc,.int .i64 Q,.bool V] 55):=⟨_,rfl⟩
 have sa:wa.heap.size=w.heap.size+1:=by rw[Iw];simp
 have sb:wb.heap.size=w.heap.size+1+1:=by rw[Ix];simp[sa]
 have IP:Below w.heap.size w wa:=by rw[Iw];exact bO _ _
 have S:Below wa.heap.size wa wb:=by rw[Ix];exact bO _ _
 have IA:Below wb.heap.size wb M:=by rw[IB];exact bO _ _
 have II:Below w.heap.size w M:=(IP.trans (S.mono (by omega))).trans (IA.mono (by omega));have m1:Cs M w.heap.size [.int .i64 er,.int .i64 nu,.bool X,.slice ta T.length tc,.slice ca C.length cc,.int .i64 Q,.bool V]:=(Cs.below (show Cs wa w.heap.size [.int .i64 er,.int .i64 nu,.bool X,.slice ta T.length tc,.slice ca C.length cc,.int .i64 Q,.bool V] by rw[Iw];exact Cs.new w _ _) S).below IA;have m2:Cs M (w.heap.size+1+1) [.bool X,.slice ta T.length tc,.slice ca C.length cc,.int .i64 Q,.bool V]:=by rw[←sb,IB];exact Cs.new wb _ _
 obtain⟨g,hg⟩: ∃g,g=w.heap.size+1+1:=⟨_,rfl⟩
 rw[←hg]at m2;have IH:=hid hg.symm;obtain⟨b,hb⟩: ∃b,b=w.heap.size+1:=⟨_,rfl⟩
 have h0:RW b aL M:=by
  have y:RW b aL wb:=by unfold RW;rw[hb,←sa,Ix];exact heap_alloc_new wa _
  exact y.below IA
 have HM:=hid (show∀W,M.grownBy W (some b)→Cs W w.heap.size [.int .i64 er,.int .i64 nu,.bool X,.slice ta T.length tc,.slice ca C.length cc,.int .i64 Q,.bool V]from fun W hg=>m1.nb hg (by omega));have HP:=hid (show∀W,M.grownBy W (some b)→Cs W g [.bool X,.slice ta T.length tc,.slice ca C.length cc,.int .i64 Q,.bool V]from fun W Jq=>m2.nb Jq (by omega));have I5:=hid (show∀W,M.grownBy W (some b)→Below w.heap.size w W from fun W hg=>II.trans (lS hg (by omega) II.size));have H0:=hid h0;have I7:M.grownBy M (some b):=gi b (Below.refl _ _);obtain⟨bV,IJ⟩: ∃t,t=aL:=⟨_,rfl⟩
 rw[←IJ]at H0⊢;have l0:bV.l.length=0:=by rw[IJ];rfl
 have HW:=hid (show(((w.alloc (.cells #[.int .i64 er,.int .i64 nu,.bool X,.slice ta T.length tc,.slice ca C.length cc,.int .i64 Q,.bool V] 57)).alloc (.cells #[.string ⟨#[]⟩,.bool false,.bool false] 150)).alloc (.cells #[.bool X,.slice ta T.length tc,.slice ca C.length cc,.int .i64 Q,.bool V] 55))=M from by rw[←Iw,←Ix,←IB]);have J5:=hid hb.symm;have Jy:w.heap.size≤b:=by omega
 have J7:=hid hT;have J6:=hid hC;have HC:=hid hz;have br:=(HP.out M I7).cell 1 rfl;have q1:=(HP.out M I7).cell 2 rfl;clear hg Iw Ix IB sa sb IP S IA II m1 m2 h0 IJ hT hC hz hb;by_cases JA:(60:Int)<T.length
 · have HF:=hid (Ws.fin_many (yV (s:=bV) (l:=ee ⟨er,nu,⟨X,T,C,Q,V⟩⟩) (by simp only[ee,jM,List.mem_cons,List.mem_append];exact Or.inr (Or.inr (Or.inr (Or.inl (Or.inl (yW (by omega)))))))))
   go_enter func43,ntmps43
   go_upto_region 3 with fail;rw[HW.out,IH.out];go_wp2_with fail;go_ret2;rw[HF.out];exact⟨rfl,I5.out M I7⟩
 by_cases Jz:(10:Int)<C.length
 · have HF:=hid (Ws.fin_many (yV (s:=bV) (l:=ee ⟨er,nu,⟨X,T,C,Q,V⟩⟩) (by simp only[ee,jM,List.mem_cons,List.mem_append];exact Or.inr (Or.inr (Or.inr (Or.inl (Or.inr (yW (by omega)))))))))
   go_enter func43,ntmps43
   go_upto_region 3 with fail;rw[HW.out,IH.out];go_wp2_with fail;go_ret2;rw[HF.out];exact⟨rfl,I5.out M I7⟩
 have ID:=hid (show cA bV (ee ⟨er,nu,⟨X,T,C,Q,V⟩⟩)=bv (bv (cA (bv (cA (bv (bv (bv (bv bV er) nu) (if X=true then 1 else 0)) T.length) (T.flatMap fe)) C.length) (C.flatMap eK)) Q) (if V=true then 1 else 0)from by
  rw[ee,jM,Wr.lst,if_pos (show T.length≤60 by omega),Wr.lst,if_pos (show C.length≤10 by omega),lT,lT,lT,mS,mS,lT,lT];rfl)
 obtain⟨RS,IN⟩: ∃x,x=cA bV (ee ⟨er,nu,⟨X,T,C,Q,V⟩⟩):=⟨_,rfl⟩
 rw[←IN]at ID⊢;clear IN;go_enter func43,ntmps43
 go_upto_region 3 with fail;rw[HW.out,IH.out,J5.out];clear HW;have c0:=(HM.out M I7).cell 0 rfl;go_wp2_with fail;refine(fM b bV er M H0.out HC.out.e (by omega)).mono ?_
 rintro e w1 ⟨rfl,y,z⟩;have IR:=aG I7 z;obtain⟨t1,f⟩: ∃E,E=bv bV er:=⟨_,rfl⟩
 have L1:t1.l.length≤bV.l.length+1021:=by rw[f];exact eD (s:=bV) (x:= .n er) HC.out.e
 rw[←f]at y;have J9:=hid f;have H1:=hid y;clear f y z c0 br q1;have P:=(HM.out w1 IR).cell 1 rfl;go_wp2_with fail;refine(fM b t1 nu w1 H1.out HC.out.n (by omega)).mono ?_
 rintro e w2 ⟨rfl,y,z⟩;have IT:=aG IR z;obtain⟨t2,f⟩: ∃E,E=bv t1 nu:=⟨_,rfl⟩
 have L2:t2.l.length≤t1.l.length+1021:=by rw[f];exact eD (s:=t1) (x:= .n nu) HC.out.n
 rw[←f]at y;have Ja:=hid f;have H2:=hid y;clear f y z P;have c0:=(HP.out w2 IT).cell 0 rfl;go_wp2_with fail;refine(th b t2 X w2 H2.out (by omega)).mono ?_
 rintro e w3 ⟨rfl,y,z⟩;have IU:=aG IT z;obtain⟨t3,f⟩: ∃E,E=bv t2 (if X=true then 1 else 0):=⟨_,rfl⟩
 have L3:t3.l.length≤t2.l.length+1021:=by rw[f];exact eD (s:=t2) (x:=fJ X) (pi _)
 rw[←f]at y;have Jb:=hid f;have H3:=hid y;clear f y z c0;have P:=(HP.out w3 IU).cell 1 rfl;go_wp2_with fail;refine(fM b t3 T.length w3 H3.out ⟨by omega,by omega⟩ (by omega)).mono ?_
 rintro e w4 ⟨rfl,y,z⟩;have IV:=aG IU z;obtain⟨t4,f⟩: ∃E,E=bv t3 T.length:=⟨_,rfl⟩
 have L4:t4.l.length≤t3.l.length+1021:=by rw[f];exact eD (s:=t3) (x:= .n T.length) ⟨by omega,by omega⟩
 rw[←f]at y;have Jc:=hid f;have H4:=hid y;clear f y z P
 have HL:=hid (show∀k,(cA t4 ((T.take k).flatMap fe)).l.length≤t4.l.length+260000 from fun k=>by
  have y:=sT fe 4 t4 T k (fun x hx=>(HC.out.p.t x hx).it);omega)
 have HS:Hid (RW b (cA t4 ((T.take 0).flatMap fe)) w4):=H4;clear H4;have P:=(HP.out w4 IV).cell 1 rfl;go_wp2_with fail;clear P;go_loopw [6] (fun i wr=> ∃k:Nat,k≤T.length∧i= .int .i64 k∧Hid (RW b (cA t4 ((T.take k).flatMap fe)) wr)∧M.grownBy wr (some b)) (fun i _=>T.length-(intOf i).toNat)
 case atStart=>exact⟨0,Nat.zero_le _,rfl,HS,IV⟩
 case round=>
  obtain⟨k,hk,rfl,HV,z⟩:=hrel
  have d:=(HP.out wr z).cell 1 rfl;by_cases I:k<T.length
  · obtain⟨bb,o,rfl,S,he⟩:=J7.out k I
    have N:=HC.out.p.t _ (List.getElem_mem I);have Jr:=HL.out k;have HX:=hid (sS fe t4 T k I);have I0:=hid (show∀W,M.grownBy W (some b)→dp W bb (o+k*4) T[k]from fun W hg=>he.below S (I5.out W hg));generalize cA t4 ((T.take k).flatMap fe)=O at*;clear he;generalize T[k]=x at*;have I8:=HV;have G:=z;obtain⟨Iz,J⟩: ∃wx,wx=wr:=⟨_,rfl⟩
    rw[←J]at I8 G d⊢;clear HV z HS;have Ji:=hid J;clear J;obtain⟨c0,P,c2,c3⟩:=I0.out Iz G
    go_wp2_with fail;refine(jm b O x.path Iz I8.out (by omega) N.p).mono ?_
    rintro e I6 ⟨rfl,y,z⟩;have H:=aG G z;obtain⟨K,f⟩: ∃E,E=eM O x.path:=⟨_,rfl⟩
    have Jj:K.l.length≤O.l.length+1021:=by rw[f];exact eD (s:=O) (x:= .t x.path) trivial
    rw[←f]at y;have I9:=hid f;have IE:=hid y;clear f y z c0 P c2 c3 d;obtain⟨c0,P,c2,c3⟩:=I0.out I6 H
    have d:=(HP.out I6 H).cell 1 rfl;go_wp2_with fail;refine(th b K x.folder I6 IE.out (by omega)).mono ?_
    rintro e Z ⟨rfl,y,z⟩;have F:=aG H z;obtain⟨Y,f⟩: ∃E,E=bv K (if x.folder=true then 1 else 0):=⟨_,rfl⟩
    have Jk:Y.l.length≤K.l.length+1021:=by rw[f];exact eD (s:=K) (x:=fJ x.folder) (pi _)
    rw[←f]at y;have Iv:=hid f;have IF:=hid y;clear f y z c0 P c2 c3 d;obtain⟨c0,P,c2,c3⟩:=I0.out Z F
    have d:=(HP.out Z F).cell 1 rfl;go_wp2_with fail;refine(jm b Y x.text Z IF.out (by omega) N.t).mono ?_
    rintro e IC ⟨rfl,y,z⟩;have U:=aG F z;obtain⟨Iy,f⟩: ∃E,E=eM Y x.text:=⟨_,rfl⟩
    have Jv:Iy.l.length≤Y.l.length+1021:=by rw[f];exact eD (s:=Y) (x:= .t x.text) trivial
    rw[←f]at y;have IK:=hid f;have IG:=hid y;clear f y z c0 P c2 c3 d;obtain⟨c0,P,c2,c3⟩:=I0.out IC U
    have d:=(HP.out IC U).cell 1 rfl;go_wp2_with fail;refine(fM b Iy x.ver IC IG.out N.v (by omega)).mono ?_
    rintro e JB ⟨rfl,y,z⟩;have IS:=aG U z;obtain⟨Ju,f⟩: ∃E,E=bv Iy x.ver:=⟨_,rfl⟩
    have Jw:Ju.l.length≤Iy.l.length+1021:=by rw[f];exact eD (s:=Iy) (x:= .n x.ver) N.v
    rw[←f]at y;have IL:=hid f;have J4:=hid y;clear f y z c0 P c2 c3 d;go_wp2_with fail;go_roundw
    case rel=>exact⟨k+1,by omega,by simp,hid (by rw[HX.out];have h:=J4.out;rw[IL.out,IK.out,Iv.out,I9.out]at h;exact h),IS⟩
    case measure=>simp[intOf];omega
  · obtain rfl:k=T.length:=by omega
    have l5:=HL.out T.length;have H5:=hid HV.out;rw[List.take_length]at H5 l5;obtain⟨t5,f⟩: ∃E,E=cA t4 (T.flatMap fe):=⟨_,rfl⟩
    rw[←f]at H5 l5;have Jd:=hid f;obtain⟨w5,J2⟩: ∃wx,wx=wr:=⟨_,rfl⟩
    rw[←J2]at H5 z d⊢;have IW:=z;clear f HV z HL HS J2;have c2:=(HP.out w5 IW).cell 2 rfl;go_wp2_with fail;refine(fM b t5 C.length w5 H5.out ⟨by omega,by omega⟩ (by omega)).mono ?_
    rintro e w6 ⟨rfl,y,z⟩;have IX:=aG IW z;obtain⟨dj,f⟩: ∃E,E=bv t5 C.length:=⟨_,rfl⟩
    have L6:dj.l.length≤t5.l.length+1021:=by rw[f];exact eD (s:=t5) (x:= .n C.length) ⟨by omega,by omega⟩
    rw[←f]at y;have Je:=hid f;have H6:=hid y;clear f y z c2 d
    have HL:=hid (show∀k,(cA dj ((C.take k).flatMap eK)).l.length≤dj.l.length+1100000 from fun k=>by
     have y:=sT eK 103 dj C k (fun x hx=>(HC.out.p.o x hx).it);omega)
    have HS:Hid (RW b (cA dj ((C.take 0).flatMap eK)) w6):=H6;clear H6;have c2:=(HP.out w6 IX).cell 2 rfl;go_wp2_with fail;clear c2;go_loopw [7] (fun i wr=> ∃k:Nat,k≤C.length∧i= .int .i64 k∧Hid (RW b (cA dj ((C.take k).flatMap eK)) wr)∧M.grownBy wr (some b)) (fun i _=>C.length-(intOf i).toNat)
    case atStart=>exact⟨0,Nat.zero_le _,rfl,HS,IX⟩
    case round=>
     obtain⟨k,hk,rfl,HV,z⟩:=hrel
     have d:=(HP.out wr z).cell 2 rfl;by_cases I:k<C.length
     · obtain⟨bb,o,rfl,S,he⟩:=J6.out k I
       have N:=HC.out.p.o _ (List.getElem_mem I);have Jr:=HL.out k;have HX:=hid (sS eK dj C k I);have IQ:=he;have I0:=hid (show∀W,M.grownBy W (some b)→iQ W bb (o+k*3) C[k]from fun W hg=>he.below S (I5.out W hg));generalize cA dj ((C.take k).flatMap eK)=O at*;clear he;generalize C[k]=x at*;have I8:=HV;have G:=z;obtain⟨Iz,J⟩: ∃wx,wx=wr:=⟨_,rfl⟩
       rw[←J]at I8 G d⊢;clear HV z HS;have Ji:=hid J;clear J
       obtain⟨u,J1,IM⟩: ∃u,(∀W,M.grownBy W (some b)→W.cell? ⟨bb,o+k*3+2,none⟩=some u)∧cj w u x.ch:=by
        obtain⟨_,_,u,hu,hl⟩:=IQ
        exact⟨u,fun W hg=>((I5.out W hg).cell (p:=⟨bb,o+k*3+2,none⟩) S).trans hu,hl⟩
       have HU:=hid J1;have J8:=hid IM;obtain⟨au,Jx,rfl,_⟩:=IM
       clear J1 IQ;obtain⟨c0,P,_⟩:=I0.out Iz G
       go_wp2_with fail;refine(fM b O x.nu Iz I8.out N.n (by omega)).mono ?_
       rintro e I6 ⟨rfl,y,z⟩;have H:=aG G z;obtain⟨K,f⟩: ∃E,E=bv O x.nu:=⟨_,rfl⟩
       have Jj:K.l.length≤O.l.length+1021:=by rw[f];exact eD (s:=O) (x:= .n x.nu) N.n
       rw[←f]at y;have I9:=hid f;have IE:=hid y;clear f y z c0 P d;obtain⟨c0,P,_⟩:=I0.out I6 H
       have d:=(HP.out I6 H).cell 2 rfl;go_wp2_with fail;refine(jm b K x.ke I6 IE.out (by omega) N.k).mono ?_
       rintro e Z ⟨rfl,y,z⟩;have F:=aG H z;obtain⟨Y,f⟩: ∃E,E=eM K x.ke:=⟨_,rfl⟩
       have Jk:Y.l.length≤K.l.length+1021:=by rw[f];exact eD (s:=K) (x:= .t x.ke) trivial
       rw[←f]at y;have Iv:=hid f;have IF:=hid y;clear f y z c0 P d;have c2:=HU.out Z F;have d:=(HP.out Z F).cell 2 rfl;go_wp2_with fail;refine(yw w x.ch _ b Y Z J8.out (I5.out Z F) (by omega) IF.out (by omega) N.c).mono ?_
       rintro e IC ⟨rfl,y,z⟩;have U:=aG F z;have IG:=hid y;clear y z c2 d;go_wp2_with fail;go_roundw
       case rel=>exact⟨k+1,by omega,by simp,hid (by rw[HX.out,eK,mS];have h:=IG.out;rw[Iv.out,I9.out]at h;exact h),U⟩
       case measure=>simp[intOf];omega
     · obtain rfl:k=C.length:=by omega
       have l7:=HL.out C.length;have H7:=hid HV.out;rw[List.take_length]at H7 l7;obtain⟨t7,f⟩: ∃E,E=cA dj (C.flatMap eK):=⟨_,rfl⟩
       rw[←f]at H7 l7;have Jf:=hid f;obtain⟨w7,J3⟩: ∃wx,wx=wr:=⟨_,rfl⟩
       rw[←J3]at H7 z d⊢;have IY:=z;clear f HV z HL HS J3;have c3:=(HP.out w7 IY).cell 3 rfl;go_wp2_with fail;refine(fM b t7 Q w7 H7.out HC.out.p.u (by omega)).mono ?_
       rintro e w8 ⟨rfl,y,z⟩;have IZ:=aG IY z;obtain⟨t8,f⟩: ∃E,E=bv t7 Q:=⟨_,rfl⟩
       have L8:t8.l.length≤t7.l.length+1021:=by rw[f];exact eD (s:=t7) (x:= .n Q) HC.out.p.u
       rw[←f]at y;have Jg:=hid f;have H8:=hid y;clear f y z c3 d;have c4:=(HP.out w8 IZ).cell 4 rfl;go_wp2_with fail;refine(th b t8 V w8 H8.out (by omega)).mono ?_
       rintro e w9 ⟨rfl,y,z⟩;have Jp:=aG IZ z;obtain⟨t9,f⟩: ∃E,E=bv t8 (if V=true then 1 else 0):=⟨_,rfl⟩
       have L9:t9.l.length≤t8.l.length+1021:=by rw[f];exact eD (s:=t8) (x:=fJ V) (pi _)
       rw[←f]at y;have Jh:=hid f;have H9:=hid y;clear f y z c4;have HD:=hid (yx b _ w9 H9.out);go_wp2_with fail;refine HD.out.mono ?_
       rintro e JC ⟨rfl,rfl⟩;go_wp2_with fail;go_ret2;have J0:t9=RS:=by rw[ID.out,Jh.out,Jg.out,Jf.out,Je.out,Jd.out,Jc.out,Jb.out,Ja.out,J9.out]
       rw[J0];exact⟨rfl,I5.out _ Jp⟩
def pz {H:Type} (c:ay):DataW H:= .agg [.lit (.int .i64 c.k),.lit (.string c.p.data.toList),.lit (.string c.q.data.toList),.lit (.string c.t.data.toList),.lit (.int .i64 c.b)]
theorem tj {H:Type} (c:ay):Rows.uptoBulk (pz (H:=H) c)=c.p.size+c.q.size+c.t.size+6:=by
 rw[pz,Rows.uptoBulk,Rows.uptoBulkAll,Rows.uptoBulkAll,Rows.uptoBulkAll,Rows.uptoBulkAll,Rows.uptoBulkAll,Rows.uptoBulkAll,Rows.uptoBulk,Rows.uptoBulk,Rows.uptoBulk,Rows.uptoBulk,Rows.uptoBulk,Lib.size_eq,Lib.size_eq,Lib.size_eq]
 · omega
 · intro b h;cases h
 · intro b h;cases h
theorem GB {H:Type} {enc:TypeId×Value→H} {W:World} {n i:Nat} {a:Addr} {x:DataW H} {pl:List MemPlace} {y:List Value} (ha:a.spot=none)
    (U:W.cells? 0 (a.add (i*prog.cellsOf 72)) (prog.cellsOf 72)=some y) (h2:DataW.trod enc prog W 0 (fun _=>true) true n 72 y=some (x,pl)):
    ∃c:ay,x=pz c∧a.spot=none∧iI W a.block (a.off+i*5) c:=by
 rw[Tryz.cellsC]at U;obtain⟨_,A,z⟩:=World.cells?_some U
 obtain⟨y0,y1,al,y3,y4,F,E,_,bV,t1,t2,t3,t4⟩:=E0 underlying72 h2
 obtain⟨O,P,Q,S,T,rfl⟩:=xP A
 have I:DataW.trod enc prog W 0 (fun _=>true) true F 3 [O]=some y0:=by simpa[Tryz.cells3]using bV
 have J:DataW.trod enc prog W 0 (fun _=>true) true F 9 [P]=some y1:=by simpa[Tryz.cells9]using t1
 have K:DataW.trod enc prog W 0 (fun _=>true) true F 9 [Q]=some al:=by simpa[Tryz.cells9]using t2
 have M:DataW.trod enc prog W 0 (fun _=>true) true F 9 [S]=some y3:=by simpa[Tryz.cells9]using t3
 have N:DataW.trod enc prog W 0 (fun _=>true) true F 3 [T]=some y4:=by simpa[Tryz.cells3]using t4
 obtain⟨s0,aL,g0,_⟩:=DataW.trod_int underlying3 I
 obtain⟨s1,e1,g1,_⟩:=DataW.trod_string underlying9 J
 obtain⟨s2,aE,g2,_⟩:=DataW.trod_string underlying9 K
 obtain⟨s3,e3,g3,_⟩:=DataW.trod_string underlying9 M
 obtain⟨s4,e4,g4,_⟩:=DataW.trod_int underlying3 N
 obtain rfl:O= .int .i64 s0:=by simpa using aL
 obtain rfl:P= .string s1:=by simpa using e1
 obtain rfl:Q= .string s2:=by simpa using aE
 obtain rfl:S= .string s3:=by simpa using e3
 obtain rfl:T= .int .i64 s4:=by simpa using e4
 subst g0;subst g1;subst g2;subst g3;subst g4;simp only[Prod.mk.injEq]at E;have V:=z 0 (by omega);have X:=z 1 (by omega);have Y:=z 2 (by omega);have Z:=z 3 (by omega);have k4:=z 4 (by omega);obtain⟨ab,ao,G⟩:=a
 obtain rfl:G=none:=ha;refine⟨⟨s0,s1,s2,s3,s4⟩,E.1,rfl,?_,?_,?_,?_,?_⟩
 · by_cases d:i=0
   · subst d;simpa[Addr.add]using V
   · have f:i*5≠0:=by omega
     simpa[Addr.add,f]using V
 · by_cases d:i=0
   · subst d;simpa[Addr.add]using X
   · have f:i*5≠0:=by omega
     simpa[Addr.add,f,Nat.add_assoc]using X
 · by_cases d:i=0
   · subst d;simpa[Addr.add]using Y
   · have f:i*5≠0:=by omega
     simpa[Addr.add,f,Nat.add_assoc]using Y
 · by_cases d:i=0
   · subst d;simpa[Addr.add]using Z
   · have f:i*5≠0:=by omega
     simpa[Addr.add,f,Nat.add_assoc]using Z
 · by_cases d:i=0
   · subst d;simpa[Addr.add]using k4
   · have f:i*5≠0:=by omega
     simpa[Addr.add,f,Nat.add_assoc]using k4
theorem yX {B:Nat} (hB:B≤1000000000) {H:Type} {enc:TypeId×Value→H} {W:World} {v:Value} {d:DataW H} {p:List MemPlace} {fuel:Nat} (hf:DataW.trod enc prog W 0 (fun _=>true) true fuel 45 [v]=some (d,p)) (hk:Rows.uptoBulk d≤B):
    ∃cs:List ay,cj W v cs∧cs.length≤B∧lo B cs:=by
 haveI:Inhabited ay:=⟨⟨0,⟨#[]⟩,⟨#[]⟩,⟨#[]⟩,0⟩⟩
 rcases Go.Deep.open_slice underlying45 hf with⟨z,U⟩|⟨a,len,A,m,n,D,Pl,z,hb,hl,hm,K,U,I⟩
 · obtain rfl:v= .slice none 0 0:=by simpa using z
   exact⟨[],⟨none,0,rfl,Nat.le_refl _,by simp,fun i f=>absurd f (by simp)⟩,by simp,fun e O=>by cases O⟩
 obtain rfl:v= .slice (some a) len A:=by simpa using z
 have S:m=A:=K.trans (if_pos rfl);clear K;have G:=(Prod.mk.inj U).1;clear U;subst S
 have T:0<len→a.spot=none:=fun h=>by
  obtain⟨M,y,_⟩:=I 0 (by omega)
  rw[Tryz.cellsC]at y;obtain⟨_,J,Z⟩:=World.cells?_some y
  obtain⟨X,c1,c2,c3,c4,rfl⟩:=xP J
  have k0:=Z 0 (by omega);exact mj (v:=X) (by simpa[Addr.add]using k0)
 have F: ∀i,i<len→ ∃e:ay,D i=pz e∧a.spot=none∧iI W a.block (a.off+i*5) e:=fun i f=>by
  obtain⟨M,y,N⟩:=I i (by omega)
  exact GB (T (by omega)) y N
 obtain⟨E,ae⟩:=Go.Deep.choose_lt F
 have Y:Rows.uptoBulkAll ((List.range len).map D)≤B:=by
  rw[G,Rows.uptoBulk]at hk;omega
 refine⟨(List.range len).map E,⟨some a,_,by simp;rfl,by simpa using hl,?_,fun i f=>?_⟩,?_,fun e O=>?_⟩
 · have:=Bk.len (l:=(List.range len).map D) (fun d G=>by
    obtain⟨i,f,rfl⟩:=List.mem_map.1 G
    rw[(ae i (List.mem_range.1 f)).1,tj];omega)
   simp at this⊢
   omega
 · have P:i<len:=by simpa using f
   obtain⟨y,N,V⟩:=ae i P
   have Q:a.block<W.heap.size:=by
    have k:=V.1;rcases Nat.lt_or_ge a.block W.heap.size with h|h
    · exact h
    · unfold World.cell? at k;rw[Array.getElem?_eq_none h]at k;cases k
   refine⟨a.block,a.off,?_,Q,by simpa using V⟩
   rw[←N]
 · have:=Bk.len (l:=(List.range len).map D) (fun d G=>by
    obtain⟨i,f,rfl⟩:=List.mem_map.1 G
    rw[(ae i (List.mem_range.1 f)).1,tj];omega)
   simp at this⊢
   omega
 · obtain⟨i,f,rfl⟩:=List.mem_map.1 O
   have y:=Bk.mem (List.mem_map.2 ⟨i,f,rfl⟩:D i∈(List.range len).map D);rw[(ae i (List.mem_range.1 f)).1,tj]at y;refine⟨?_,?_,?_⟩<;>omega
theorem Tryz.cellsCl:prog.cellsOf 47=8:=by kernel_rfl
theorem Tryz.cellsClC:prog.cellsOf 45=1:=by kernel_rfl
theorem Tryz.cellsClE:prog.cellsOf 44=1:=by kernel_rfl
theorem yY {d:Type} {l:List d} (h:l.length=8): ∃y z aY A E F G H,l=[y,z,aY,A,E,F,G,H]:=by
 rcases l with _|⟨y,_|⟨z,_|⟨aY,_|⟨A,_|⟨E,_|⟨F,_|⟨G,_|⟨H,_|⟨f,r⟩⟩⟩⟩⟩⟩⟩⟩⟩
 all_goals first|exact⟨y,z,aY,A,E,F,G,H,rfl⟩|(simp at h)
theorem GC {H:Type} {enc:TypeId×Value→H} {P:Program} {w:World} {base:Nat} {d:Nat→Bool} {f:Bool} {t:TypeId} {z A E F G I J K:Field} {fuel:Nat} {cs:List Value} {x:DataW H×List MemPlace} (Y:P.underlying t=some (.struct #[z,A,E,F,G,I,J,K])) (h:DataW.trod enc P w base d f fuel t cs=some x):
    ∃N O al Q S T U V n Z,x=(.agg [N.1,O.1,al.1,Q.1,S.1,T.1,U.1,V.1],Z)∧cs.length=P.cellsOf t∧DataW.trod enc P w base d f n z.type ((cs.drop z.offset).take (P.cellsOf z.type))=some N∧DataW.trod enc P w base d f n A.type ((cs.drop A.offset).take (P.cellsOf A.type))=some O∧DataW.trod enc P w base d f n E.type ((cs.drop E.offset).take (P.cellsOf E.type))=some al∧DataW.trod enc P w base d f n F.type ((cs.drop F.offset).take (P.cellsOf F.type))=some Q∧DataW.trod enc P w base d f n G.type ((cs.drop G.offset).take (P.cellsOf G.type))=some S∧DataW.trod enc P w base d f n I.type ((cs.drop I.offset).take (P.cellsOf I.type))=some T∧DataW.trod enc P w base d f n J.type ((cs.drop J.offset).take (P.cellsOf J.type))=some U∧DataW.trod enc P w base d f n K.type ((cs.drop K.offset).take (P.cellsOf K.type))=some V:=by
 obtain⟨xs,n,_,rfl,X,M,y⟩:=DataW.trod_struct Y h
 match xs,M with
 |[N,O,al,Q,S,T,U,V],_=>exact⟨N,O,al,Q,S,T,U,V,n,_,rfl,X,by simpa using y 0 z rfl,by simpa using y 1 A rfl,by simpa using y 2 E rfl,by simpa using y 3 F rfl,by simpa using y 4 G rfl,by simpa using y 5 I rfl,by simpa using y 6 J rfl,by simpa using y 7 K rfl⟩
theorem yZ {H:Type} (d f aY y z A E F:DataW H):Rows.uptoBulk (.agg [d,f,aY,y,z,A,E,F])=1+(Rows.uptoBulk d+(Rows.uptoBulk f+(Rows.uptoBulk aY+(Rows.uptoBulk y+(Rows.uptoBulk z+(Rows.uptoBulk A+(Rows.uptoBulk E+(Rows.uptoBulk F)))))))):=by
 rw[Rows.uptoBulk,Rows.uptoBulkAll,Rows.uptoBulkAll,Rows.uptoBulkAll,Rows.uptoBulkAll,Rows.uptoBulkAll,Rows.uptoBulkAll,Rows.uptoBulkAll,Rows.uptoBulkAll,Rows.uptoBulkAll];omega
end Go.Proofs.YtcmlnelpcjfocaaGreatDoor
