/- Where the grants' folders are, as plain mathematics; what the server's map answers. -/
import Derived.Test.YtgamnckfmmbjdaaGreatDoorWGZB
import Derived.Test.YtgamnckfmmbjdaaGreatDoorWGZC
set_option linter.unusedSimpArgs false
set_option linter.unusedVariables false
namespace Go.Proofs.YtgamnckfmmbjdaaGreatDoor
open Go.RowKit Go.Maps Go.WideMaps Go.Proofs.Tryz
set_option maxHeartbeats 2000000
set_option maxRecDepth 100000
def bT (G:List Gr) (x:ByteArray):Bool:=Jn.hasB (Hu.told [] G) x.data.toList
theorem oz (L:List Sh) (G:List Gr) (p:List UInt8):Jn.hasB (Hu.told L G) p=G.any (fun g=>g.fo.data.toList==p):=by
 unfold Jn.hasB Hu.told;rw[List.any_map];rfl
theorem zG (L:List Sh) (G:List Gr) (x:ByteArray):Jn.hasB (Hu.told L G) x.data.toList=bT G x:=by rw[bT,oz,oz]
theorem jJ (G:List Gr) (x:ByteArray):bT G x=G.any (fun g=>g.fo.data.toList==x.data.toList):=by rw[bT,oz]
def zH (L:List Sh) (G:List Gr) (x:ByteArray):Nat:=if bT G x=true then f9 L x else 0
def Hu.lst (k:Int):Int:=if k=1∨k=7 then 2 else if k=2∨k=3 then 1 else 0
def gm (w:World) (g mb:Nat) (H:Hb):Prop:= ∃vf vg ag,Cs w g [vf,vg,ag,.int .i64 H.nx,.int .i64 H.la,.int .i64 H.ro,.int .i64 H.now,.map (some mb)]∧dt w vf H.fos∧bt w vg H.gs∧bR w ag H.ss
theorem Sv.lies {B:Nat} {w:World} {g a:Nat} {d e ag:Value} {H:Hb} (h:Sv B w g a d e ag H):gm w g a H:=⟨d,e,ag,h.1,h.2.1.lies,h.2.2.1.1,h.2.2.2.1.1⟩
theorem gm.below {w w':World} {g d:Nat} {H:Hb} (h:gm w g d H) (a:Below w.heap.size w w'):gm w' g d H:=by
 obtain⟨u,y,ag,e,f,j,o⟩:=h
 exact⟨u,y,ag,e.below a,f.below a,j.below a,o.below a⟩
theorem gm.nb {w w':World} {g e k:Nat} {H:Hb} (h:gm w g e H) (a:w.grownBy w' (some k)) (d:cy w k) (y:g≠k):gm w' g e H:=by
 obtain⟨z,A,ag,f,j,o,u⟩:=h
 exact⟨z,A,ag,f.nb a y,j.nb a d,o.nb a d,u.nb a d⟩
theorem zJ {n:Int} (h: ¬aM n=0) (L:List En) {cs:List ar} (e:0<cs.length):cJ n L cs=(0,3,[]):=by
 cases cs with
 |nil=>simp at e
 |cons c r=>
  have d:aM n=3:=by
   unfold aM at h⊢;split
   · rfl
   · rename_i a;rw[if_neg a]at h;exact absurd rfl h
  rw[cJ,if_neg (by rw[nL h];exact h),nL h,d]
theorem zK (L:List En) (v:Value) (cs:List ar) (u:Value) (n:Int) (w:World) (hv:aj w v L) (hL:Pp.Good L) (hu:bk w u cs) (Z:iQ 1000000000 cs):
    Calls prog 123 #[v,u,.int .i64 n] w fun e w'=> ∃r,e= .returned (.tuple #[r,.int .i64 (gW L cs n),.int .i64 (bJ L cs n)])∧(bJ L cs n=0→aj w' r (cX L cs n))∧Below w.heap.size w w':=by
 have HV:=hid hv;have HL:=hid hL;have C4:=hid Z;have I:=(gx L).2 hL;obtain⟨a,C8,rfl,Y,P,hC⟩:=hu
 have HC:Hid (∀i (h:i<cs.length),∃b o,a=some ⟨b,o,none⟩∧b<w.heap.size∧eJ w b (o+i*5) cs[i]):=hC;clear hv Z hC;by_cases U:20<cs.length
 · obtain⟨ae,y,A⟩:=kY I U n
   rw[ae,y];clear ae y A I hL;have V:20<(cs.length:Int):=by omega
   go_enter func123,ntmps123
   go_wp2;go_ret3;exact⟨_,rfl,fun h=>absurd h (by decide),Below.refl _ _⟩
 · have V: ¬20<(cs.length:Int):=by omega
   have j:=hid (show∀k e R,cJ n L cs=(k,e,R)→bJ L cs n=e∧gW L cs n=k∧cX L cs n=R from fun k e R h=>mN I U h);clear I hL;by_cases hz:cs.length=0
   · have hn:cs=[]:=List.length_eq_zero_iff.1 hz
     subst hn;obtain⟨ae,y,A⟩:=j.out _ _ _ (uC n L)
     have F:=hid ae;have G:=hid y;have HR:=hid A;clear ae y A hz;simp only[List.length_nil]at Y P⊢;go_enter func123,ntmps123
     go_wp2_with fail;go_loopw [0,9] (fun x i wr=>x=v∧i= .int .i64 0∧Below w.heap.size w wr) (fun _ _ _=>0)
     case atStart=>exact⟨rfl,rfl,Below.refl _ _⟩
     case round=>
      obtain⟨rfl,rfl,d⟩:=hrel
      go_wp2_with fail;go_ret3;exact⟨_,by rw[F.out,G.out];rfl,fun _=>by rw[HR.out];exact HV.out.below d,d⟩
   · have C9:0<(cs.length:Int):=by omega
     by_cases z:aM n=0
     · have T:=hid z
       clear z;go_enter func123,ntmps123
       go_wp2_with fail;refine(jE n _).mono ?_
       rintro e w1 ⟨rfl,hw⟩;rw[hw];clear hw w1;rw[T.out];go_wp2_with fail;go_loopw [0,9] (fun x i wr=> ∃(k:Nat) (S:List En),k≤cs.length∧i= .int .i64 k∧Hid (aj wr x S)∧Hid (Pp.Good S)∧Hid (Pp.Left n L cs S k)∧Below w.heap.size w wr) (fun _ i _=>cs.length-(intOf i).toNat)
       case atStart=>exact⟨0,L,Nat.zero_le _,rfl,HV,HL,Pp.left_zero n L cs,Below.refl _ _⟩
       case round=>
        obtain⟨k,S,hk,rfl,HX,Q,K,d⟩:=hrel
        by_cases H:k<cs.length
        · obtain⟨b,o,rfl,hb,he⟩:=HC.out k H
          obtain⟨c0,c1,c2,c3,c4⟩:=he.below hb d
          have HZ:=hid (C4.out cs[k] (List.getElem_mem H));have N:=hid (show bn S cs[k] n=0→Pp.Left n L cs (bN S cs[k] n) (k+1)from fun f=>Pp.left_next K.out H f);have O:=hid (show¬bn S cs[k] n=0→cJ n L cs=(k,bn S cs[k] n,[])from fun f=>pG K.out H f);have J:=hid (show bn S cs[k] n=0→Pp.Good (bN S cs[k] n)from fun f=>mJ Q.out f);clear he;generalize cs[k]=ck at*;obtain⟨kk,p,q,t,dF⟩:=ck
          simp only at c0 c1 c2 c3 c4;go_wp2_with fail;refine(zA S _ kk p q t dF n _ HX.out HZ.out.1 HZ.out.2.1 HZ.out.2.2 Q.out T.out).mono ?_
          rintro e w3 ⟨u3,rfl,C3,X⟩;have M:=hid C3;have E:=bj d X;clear X C3 c0 c1 c2 c3 c4 d;by_cases f:bn S ⟨kk,p,q,t,dF⟩ n=0
          · have G:=hid (N.out f)
            have C5:=hid (J.out f);have C6:=hid (M.out f);rw[f];clear f M N O J;go_wp2_with fail;go_roundw
            case rel=>exact⟨k+1,_,by omega,by simp,C6,C5,G,E⟩
            case measure=>simp[intOf];omega
          · obtain⟨ae,y,A⟩:=j.out _ _ _ (O.out f)
            have C7:(bn S ⟨kk,p,q,t,dF⟩ n==0)=false:=by simpa using f
            have F:=hid ae;have G:=hid y;have H0:=hid f;clear ae y A f M N O J;go_wp2_with fail;go_ret3;exact⟨_,by rw[F.out,G.out];rfl,fun h=>absurd (F.out▸h) H0.out,E⟩
        · obtain rfl:k=cs.length:=by omega
          obtain⟨ae,y,A⟩:=j.out _ _ _ (Pp.left_end K.out)
          have F:=hid ae;have G:=hid y;have HR:=hid A;clear ae y A;go_wp2_with fail;go_ret3;exact⟨_,by rw[F.out,G.out];rfl,fun _=>by rw[HR.out];exact HX.out,d⟩
     · obtain⟨ae,y,A⟩:=j.out _ _ _ (zJ z L (by omega))
       have F:=hid ae;have G:=hid y;have C7:(aM n==0)=false:=by simpa using z
       clear ae y A;go_enter func123,ntmps123
       go_wp2_with fail;refine(jE n _).mono ?_
       rintro e w1 ⟨rfl,hw⟩;rw[hw];clear hw w1;go_wp2_with fail;go_ret3;exact⟨_,by rw[F.out,G.out];rfl,(fun h=>by rw[F.out]at h;exact absurd h (by decide)),Below.refl _ _⟩
end Go.Proofs.YtgamnckfmmbjdaaGreatDoor
