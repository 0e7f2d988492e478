/- What the reference's OpenOf and CheckUploads answer, for every uploads. -/
import Derived.Test.YtcmlnelpcjfocaaGreatDoorWYO
set_option linter.unusedSimpArgs false
set_option linter.unusedVariables false
namespace Go.Proofs.YtcmlnelpcjfocaaGreatDoor
open Go.RowKit Go.Proofs.Tryz
set_option maxHeartbeats 4000000
set_option maxRecDepth 100000
theorem G5 (G:List Se) (v:Value) (p:ByteArray) (w:World) (U:de w v G) (hn:G.length≤1000) (F: ∀s∈G,0≤s.si∧s.si≤300):
    Calls prog 64 #[v,.string p] w fun e w'=>e= .returned (.int .i64 (bu G p))∧Below w.heap.size w w':=by
 obtain⟨a,Q,rfl,I,E,A⟩:=U
 have N:Hid (∀i (h:i<G.length),∃b o,a=some ⟨b,o,none⟩∧b<w.heap.size∧ic w b (o+i*5) G[i]):=A;have O:=hid (show∀i (h:i<G.length),0≤(G[i]).si∧(G[i]).si≤300 from fun i h=>F _ (List.getElem_mem h))
 have P:=hid (show∀k,0≤bu (G.take k) p∧bu (G.take k) p≤300*G.length from fun k=>by
  have h1:=rj (L:=G.take k) p fun s H=>F s (List.mem_of_mem_take H)
  have h2:(G.take k).length≤G.length:=by rw[List.length_take];omega
  omega)
 clear A F;go_enter func64,ntmps64
 go_wp2_with fail;go_loopw [5,6] (fun t i wr=> ∃k:Nat,k≤G.length∧i= .int .i64 k∧t= .int .i64 (bu (G.take k) p)∧Below w.heap.size w wr) (fun _ i _=>G.length-(intOf i).toNat)
 case atStart=>exact⟨0,Nat.zero_le _,rfl,rfl,Below.refl _ _⟩
 case round=>
  obtain⟨k,hk,rfl,rfl,d⟩:=hrel
  by_cases z:k<G.length
  · obtain⟨b,o,rfl,hb,J⟩:=N.out k z
    obtain⟨V,X,Y,Z,c4⟩:=J.below hb d
    obtain⟨s1,s2⟩:=O.out k z
    obtain⟨t1,t2⟩:=P.out k
    have f:bu (G.take (k+1)) p=bu (G.take k) p+(if((G[k]).wh.toList==p.toList)=true then(G[k]).si else 0):=by rw[List.take_succ_eq_append_getElem z,rh]
    have S:=d.size;clear J;generalize G[k]=s at*;generalize bu (G.take k) p=T at*;cases K:(s.wh.toList==p.toList)with
    |true=>
     have y:=hid (show bu (G.take (k+1)) p=T+s.si from by rw[f,K];rfl);clear f;go_wp2_with fail;go_roundw
     case rel=>exact⟨k+1,by omega,by simp,by rw[y.out],d⟩
     case measure=>simp[intOf];omega
    |false=>
     have y:=hid (show bu (G.take (k+1)) p=T from by rw[f,K];simp);clear f;go_wp2_with fail;go_roundw
     case rel=>exact⟨k+1,by omega,by simp,by rw[y.out],d⟩
     case measure=>simp[intOf];omega
  · have M:=hid (show bu (G.take k) p=bu G p from by rw[List.take_of_length_le (by omega)])
    go_wp2_with fail;go_ret;exact⟨aD M.out,d⟩
theorem dA (n l m:Int) (w:World):Calls prog 63 #[.int .i64 n,.int .i64 l,.int .i64 m] w fun e w'=>e= .returned (.bool (bp l n m))∧w'=w:=by
 by_cases h:l≤n
 · have d:=hid (show decide (n≤m)=bp l n m from by rw[bp,decide_eq_true h];rfl)
   go_enter func63,ntmps63
   go_wp2;go_ret;exact⟨bt d.out,rfl⟩
 · have d:=hid (show false=bp l n m from by rw[bp,decide_eq_false h];rfl)
   go_enter func63,ntmps63
   go_wp2;go_ret;exact⟨bt d.out,rfl⟩
theorem G6 (G:List Se) (v:Value) (x l r:Int) (w:World) (hv:de w v G) (hs:mg G):
    Calls prog 34 #[.agg #[v,.int .i64 x,.int .i64 l,.int .i64 r]] w fun e w'=>e= .returned (.int .i64 (bJ G x l r))∧Below w.heap.size w w':=by
 have HV:=ak hv;have HS:=ak hs;obtain⟨a,F,rfl,IJ,IF,Ix⟩:=hv
 have HL:Hid (∀i (h:i<G.length),∃b o,a=some ⟨b,o,none⟩∧b<w.heap.size∧ic w b (o+i*5) G[i]):=Ix;have eg:Enters prog 63:=enters_of func63 (by kernel_rfl) rfl;clear Ix hs;have I5:Below w.heap.size w (w.alloc (.cells #[.slice a G.length F,.int .i64 x,.int .i64 l,.int .i64 r] 26)):=(Below.refl _ _).alloc (Nat.le_refl _) _;rcases qC G.length x l r with⟨K,ae⟩|⟨K,O,ae⟩|⟨K,O,h3,ae⟩|⟨K,O,h3,h4,ae⟩|⟨K,O,h3,h4,ae⟩
 · have H:=hid (show bJ G x l r=3 from(mm (by rw[ae];decide)).trans ae)
   have H1:=ak K;clear ae K;go_enter func34,ntmps34
   go_wp2_with fail;refine(dA l 1 1000000 _).mono ?_
   rintro e f ⟨rfl,d⟩;rw[d,H1.out];clear d f;go_wp2;go_ret;exact⟨by rw[H.out];rfl,I5⟩
 · have H:=hid (show bJ G x l r=3 from(mm (by rw[ae];decide)).trans ae)
   have H1:=ak K;have H2:=ak O;clear ae K O;go_enter func34,ntmps34
   go_wp2_with fail;refine(dA l 1 1000000 _).mono ?_
   rintro e f ⟨rfl,d⟩;rw[d,H1.out];clear d f;go_wp2_with fail;refine(dA r 0 100000 _).mono ?_
   rintro e f ⟨rfl,d⟩;rw[d,H2.out];clear d f;go_wp2;go_ret;exact⟨by rw[H.out];rfl,I5⟩
 · have H:=hid (show bJ G x l r=3 from(mm (by rw[ae];decide)).trans ae)
   have H1:=ak K;have H2:=ak O;have H3:=ak h3;clear ae K O h3;go_enter func34,ntmps34
   go_wp2_with fail;refine(dA l 1 1000000 _).mono ?_
   rintro e f ⟨rfl,d⟩;rw[d,H1.out];clear d f;go_wp2_with fail;refine(dA r 0 100000 _).mono ?_
   rintro e f ⟨rfl,d⟩;rw[d,H2.out];clear d f;go_wp2_with fail;refine(dA x 1 1099511627776 _).mono ?_
   rintro e f ⟨rfl,d⟩;rw[d,H3.out];clear d f;go_wp2;go_ret;exact⟨by rw[H.out];rfl,I5⟩
 · have H:=hid (show bJ G x l r=2 from(mm (by rw[ae];decide)).trans ae)
   have H1:=ak K;have H2:=ak O;have H3:=ak h3;have IC:20<(G.length:Int):=by omega
   clear ae K O h3;go_enter func34,ntmps34
   go_wp2_with fail;refine(dA l 1 1000000 _).mono ?_
   rintro e f ⟨rfl,d⟩;rw[d,H1.out];clear d f;go_wp2_with fail;refine(dA r 0 100000 _).mono ?_
   rintro e f ⟨rfl,d⟩;rw[d,H2.out];clear d f;go_wp2_with fail;refine(dA x 1 1099511627776 _).mono ?_
   rintro e f ⟨rfl,d⟩;rw[d,H3.out];clear d f;go_wp2;go_ret;exact⟨by rw[H.out];rfl,I5⟩
 · have I7:=ak ae
   obtain⟨II,⟨IL,IM⟩,⟨IN,IP⟩,⟨IQ,IR⟩⟩:=oF ae
   have H1:=ak K;have H2:=ak O;have H3:=ak h3;have IC: ¬20<(G.length:Int):=by omega
   clear ae K O h3;go_enter func34,ntmps34
   go_wp2_with fail;refine(dA l 1 1000000 _).mono ?_
   rintro e f ⟨rfl,d⟩;rw[d,H1.out];clear d f;go_wp2_with fail;refine(dA r 0 100000 _).mono ?_
   rintro e f ⟨rfl,d⟩;rw[d,H2.out];clear d f;go_wp2_with fail;refine(dA x 1 1099511627776 _).mono ?_
   rintro e f ⟨rfl,d⟩;rw[d,H3.out];clear d f;go_wp2_with fail;go_loopw [4] (fun i wr=> ∃k:Nat,k≤G.length∧i= .int .i64 k∧Hid (∀j (h:j<G.length),j<k→cN x G[j]=0)∧Below (w.alloc (.cells #[.slice a G.length F,.int .i64 x,.int .i64 l,.int .i64 r] 26)).heap.size (w.alloc (.cells #[.slice a G.length F,.int .i64 x,.int .i64 l,.int .i64 r] 26)) wr) (fun i _=>G.length-(intOf i).toNat)
   case atStart=>exact⟨0,Nat.zero_le _,rfl,(fun j _ h=>absurd h (Nat.not_lt_zero _): ∀j (h:j<G.length),j<0→cN x G[j]=0),Below.refl _ _⟩
   case round=>
    obtain⟨k,hk,rfl,Q,y⟩:=hrel
    obtain⟨aR,b1,b2,dF,z,M⟩:=iP y
    have E:=ak y;clear y;by_cases I:k<G.length
    · obtain⟨b,o,rfl,hb,he⟩:=HL.out k I
      obtain⟨c0,c1,c2,c3,c4⟩:=he.below hb z
      have IH:=z.size;clear he
      have N:=hid (show¬cN x G[k]=0→cN x G[k]=bJ G x l r from fun h=>by
       have hg:=rk I Q.out h;rw[rn I7.out (by rw[hg];exact h),hg])
      have U:=hid (show cN x G[k]=0→ ∀j (h:j<G.length),j<k+1→cN x G[j]=0 from fun hh j K O=>by
       by_cases e:j=k
       · subst e;exact hh
       · exact Q.out j K (by omega))
      have I9:=(HS.out G[k] (List.getElem_mem I)).1;generalize G[k]=s at*;obtain⟨wz,A⟩: ∃wz,wz=wr.alloc (.cells #[.int .i64 s.nu,.string s.wh,.string s.tx,.int .i64 s.si,.int .i64 s.ti] 142):=⟨_,rfl⟩
      have Y:Below (w.alloc (.cells #[.slice (some ⟨b,o,none⟩) G.length F,.int .i64 x,.int .i64 l,.int .i64 r] 26)).heap.size (w.alloc (.cells #[.slice (some ⟨b,o,none⟩) G.length F,.int .i64 x,.int .i64 l,.int .i64 r] 26)) wz:=A▸E.out.alloc E.out.size _;obtain⟨z0,z1,z2,z3,Iy,IK⟩:=iP Y
      have s0:wz.cell? ⟨wr.heap.size,0,none⟩=some (.int .i64 s.nu):=by rw[A];simp
      have s1:wz.cell? ⟨wr.heap.size,1,none⟩=some (.string s.wh):=by rw[A];simp
      have s2:wz.cell? ⟨wr.heap.size,2,none⟩=some (.string s.tx):=by rw[A];simp
      have s3:wz.cell? ⟨wr.heap.size,3,none⟩=some (.int .i64 s.si):=by rw[A];simp
      have s4:wz.cell? ⟨wr.heap.size,4,none⟩=some (.int .i64 s.ti):=by rw[A];simp
      have Iv:=ak Y;have P:=ak Iy;clear Y Iy E z;rcases qD x s with⟨dc,J⟩|⟨dc,fN,J⟩|⟨dc,fN,Z,J⟩|⟨dc,fN,Z,i4,J⟩|⟨dc,fN,Z,i4,i5,J⟩|⟨dc,fN,Z,i4,i5,J⟩
      · have V:=ak dc
        have H:Hid (3=bJ G x l r):=(by rw[←N.out (by rw[J];decide),J]:(3:Int)=bJ G x l r)
        clear J dc;go_wp2_with fail;rw[←A];clear A c0 c1 c2 c3 c4 aR b1 b2 dF;refine(dA s.nu 1 (x-1) _).mono ?_
        rintro e f ⟨rfl,d⟩;rw[d,V.out];clear d f;go_wp2_with fail;go_ret;exact⟨aD H.out,P.out⟩
      · have V:=ak dc
        have I2:=ak fN;have H:Hid (3=bJ G x l r):=(by rw[←N.out (by rw[J];decide),J]:(3:Int)=bJ G x l r)
        clear J dc fN;go_wp2_with fail;rw[←A];clear A c0 c1 c2 c3 c4 aR b1 b2 dF;refine(dA s.nu 1 (x-1) _).mono ?_
        rintro e f ⟨rfl,d⟩;rw[d,V.out];clear d f;go_wp2_with fail;refine(dA s.si 0 300 _).mono ?_
        rintro e f ⟨rfl,d⟩;rw[d,I2.out];clear d f;go_wp2_with fail;go_ret;exact⟨aD H.out,P.out⟩
      · have V:=ak dc
        have I2:=ak fN;have I3:=ak Z;have H:Hid (3=bJ G x l r):=(by rw[←N.out (by rw[J];decide),J]:(3:Int)=bJ G x l r)
        clear J dc fN Z;go_wp2_with fail;rw[←A];clear A c0 c1 c2 c3 c4 aR b1 b2 dF;refine(dA s.nu 1 (x-1) _).mono ?_
        rintro e f ⟨rfl,d⟩;rw[d,V.out];clear d f;go_wp2_with fail;refine(dA s.si 0 300 _).mono ?_
        rintro e f ⟨rfl,d⟩;rw[d,I2.out];clear d f;go_wp2_with fail;refine(dA s.ti 0 2199023255552 _).mono ?_
        rintro e f ⟨rfl,d⟩;rw[d,I3.out];clear d f;go_wp2_with fail;go_ret;exact⟨aD H.out,P.out⟩
      · have V:=ak dc
        have I2:=ak fN;have I3:=ak Z;have I4:=ak i4;have H:Hid (1=bJ G x l r):=(by rw[←N.out (by rw[J];decide),J]:(1:Int)=bJ G x l r)
        clear J dc fN Z i4;go_wp2_with fail;rw[←A];clear A c0 c1 c2 c3 c4 aR b1 b2 dF;refine(dA s.nu 1 (x-1) _).mono ?_
        rintro e f ⟨rfl,d⟩;rw[d,V.out];clear d f;go_wp2_with fail;refine(dA s.si 0 300 _).mono ?_
        rintro e f ⟨rfl,d⟩;rw[d,I2.out];clear d f;go_wp2_with fail;refine(dA s.ti 0 2199023255552 _).mono ?_
        rintro e f ⟨rfl,d⟩;rw[d,I3.out];clear d f;go_wp2_with fail;refine(js s.wh _ I9).mono ?_
        rintro e f ⟨rfl,d⟩;rw[d,I4.out];clear d f;go_wp2_with fail;go_ret;exact⟨aD H.out,P.out⟩
      · have V:=ak dc
        have I2:=ak fN;have I3:=ak Z;have I4:=ak i4;have H:Hid (2=bJ G x l r):=(by rw[←N.out (by rw[J];decide),J]:(2:Int)=bJ G x l r)
        clear J dc fN Z i4;go_wp2_with fail;rw[←A];clear A c0 c1 c2 c3 c4 aR b1 b2 dF;refine(dA s.nu 1 (x-1) _).mono ?_
        rintro e f ⟨rfl,d⟩;rw[d,V.out];clear d f;go_wp2_with fail;refine(dA s.si 0 300 _).mono ?_
        rintro e f ⟨rfl,d⟩;rw[d,I2.out];clear d f;go_wp2_with fail;refine(dA s.ti 0 2199023255552 _).mono ?_
        rintro e f ⟨rfl,d⟩;rw[d,I3.out];clear d f;go_wp2_with fail;refine(js s.wh _ I9).mono ?_
        rintro e f ⟨rfl,d⟩;rw[d,I4.out];clear d f;go_wp2_with fail;go_ret;exact⟨aD H.out,P.out⟩
      · have V:=ak dc
        have I2:=ak fN;have I3:=ak Z;have I4:=ak i4;have S:=ak (U.out J);clear J dc fN Z i4;go_wp2_with fail;rw[←A];clear A c0 c1 c2 c3 c4 aR b1 b2 dF;refine(dA s.nu 1 (x-1) _).mono ?_
        rintro e f ⟨rfl,d⟩;rw[d,V.out];clear d f;go_wp2_with fail;refine(dA s.si 0 300 _).mono ?_
        rintro e f ⟨rfl,d⟩;rw[d,I2.out];clear d f;go_wp2_with fail;refine(dA s.ti 0 2199023255552 _).mono ?_
        rintro e f ⟨rfl,d⟩;rw[d,I3.out];clear d f;go_wp2_with fail;refine(js s.wh _ I9).mono ?_
        rintro e f ⟨rfl,d⟩;rw[d,I4.out];clear d f;go_wp2_with fail;go_roundw
        case rel=>exact⟨k+1,by omega,by simp,S,Iv.out⟩
        case measure=>simp[intOf];omega
    · have I8:=ak (rm fun j h=>Q.out j h (by omega))
      have IB:=ak (vT I8.out);go_wp2_with fail;clear hk I Q;go_loopw [6] (fun i wr=> ∃k:Nat,(k≤G.length∨k=1)∧1≤k∧i= .int .i64 k∧Hid (∀j (h:j+1<G.length),j+1<k→(G[j]).nu<(G[j+1]).nu)∧Below (w.alloc (.cells #[.slice a G.length F,.int .i64 x,.int .i64 l,.int .i64 r] 26)).heap.size (w.alloc (.cells #[.slice a G.length F,.int .i64 x,.int .i64 l,.int .i64 r] 26)) wr) (fun i _=>G.length-(intOf i).toNat)
      case atStart=>exact⟨1,Or.inr rfl,Nat.le_refl _,rfl,(fun j _ h=>absurd h (by omega): ∀j (h:j+1<G.length),j+1<1→(G[j]).nu<(G[j+1]).nu),E.out⟩
      case round=>
       clear aR b1 b2 dF z M E;obtain⟨k,hk,IG,rfl,Q,y⟩:=hrel
       obtain⟨aR,b1,b2,dF,z,M⟩:=iP y
       have E:=ak y;clear y;obtain⟨m,rfl⟩: ∃m,k=m+1:=⟨k-1,by omega⟩
       by_cases I:m+1<G.length
       · obtain⟨b,o,rfl,hb,he⟩:=HL.out m (by omega)
         obtain⟨c0,_⟩:=he.below hb z
         obtain⟨b',o',I0,ID,Iz⟩:=HL.out (m+1) I
         obtain⟨rfl,rfl⟩:b'=b∧o'=o:=by simp at I0;exact⟨I0.1.symm,I0.2.symm⟩
         obtain⟨d0,_⟩:=Iz.below ID z
         clear he Iz I0;by_cases hn:(G[m]).nu<(G[m+1]).nu
         · have S:=hid (show∀j (h:j+1<G.length),j+1<m+1+1→(G[j]).nu<(G[j+1]).nu from fun j K O=>by
            by_cases e:j=m
            · subst e;exact hn
            · exact Q.out j K (by omega))
           generalize (G[m]).nu=p at*;generalize (G[m+1]).nu=q at*;go_wp2_with fail;go_region
           go_wp2_with fail;go_roundw
           case rel=>exact⟨m+1+1,by omega,by omega,by simp,S,E.out.drew⟩
           case measure=>simp[intOf];omega
         · have H:=hid (show 4=bJ G x l r from(rp I7.out I8.out (re I hn)).symm)
           generalize (G[m]).nu=p at*;generalize (G[m+1]).nu=q at*;go_wp2_with fail;go_region
           go_wp2_with fail;go_ret;exact⟨aD H.out,z.drew⟩
       · have IA:=ak (rf fun j h=>Q.out j h (by omega))
         have Iw:=ak (rq I7.out I8.out IA.out);go_wp2_with fail;clear hk IG I Q;go_loopw [7] (fun i wr=> ∃k:Nat,k≤G.length∧i= .int .i64 k∧Hid (∀j (h:j<G.length),j<k→bu G (G[j]).wh≤r)∧Below (w.alloc (.cells #[.slice a G.length F,.int .i64 x,.int .i64 l,.int .i64 r] 26)).heap.size (w.alloc (.cells #[.slice a G.length F,.int .i64 x,.int .i64 l,.int .i64 r] 26)) wr) (fun i _=>G.length-(intOf i).toNat)
         case atStart=>exact⟨0,Nat.zero_le _,rfl,(fun j _ h=>absurd h (Nat.not_lt_zero _): ∀j (h:j<G.length),j<0→bu G (G[j]).wh≤r),E.out⟩
         case round=>
          clear aR b1 b2 dF z M E;obtain⟨k,hk,rfl,Q,y⟩:=hrel
          obtain⟨aR,b1,b2,dF,z,M⟩:=iP y
          have E:=ak y;clear y;by_cases I:k<G.length
          · obtain⟨b,o,rfl,hb,he⟩:=HL.out k I
            obtain⟨c0,c1,c2,c3,c4⟩:=he.below hb z
            have IH:=z.size;clear he;have N:=hid (show r<bu G (G[k]).wh→10=bJ G x l r from fun h=>by rw[Iw.out];exact vR I h)
            have U:=hid (show bu G (G[k]).wh≤r→ ∀j (h:j<G.length),j<k+1→bu G (G[j]).wh≤r from fun hh j K O=>by
             by_cases e:j=k
             · subst e;exact hh
             · exact Q.out j K (by omega))
            generalize G[k]=s at*;have IE:b<wr.heap.size:=by omega
            go_wp2_with fail
            go_region_held3 (fun W=>W.cell? ⟨w.heap.size,0,none⟩=some (.slice (some ⟨b,o,none⟩) G.length F)∧W.cell? ⟨w.heap.size,3,none⟩=some (.int .i64 r)∧W.cell? ⟨b,o+k*5+1,none⟩=some (.string s.wh)) (go_keep) (first
             |(go_at_call 64;refine(G5 G _ s.wh _ (HV.out.below z.drew) (by omega) IB.out).mono ?_;rintro e wa ⟨rfl,X⟩;have k0:=(X.cell (p:=⟨w.heap.size,0,none⟩) M).trans aR;have k3:=(X.cell (p:=⟨w.heap.size,3,none⟩) M).trans dF;have k1:=(X.cell (p:=⟨b,o+k*5+1,none⟩) IE).trans c1))
            all_goals
             have I6:Below (w.alloc (.cells #[.slice (some ⟨b,o,none⟩) G.length F,.int .i64 x,.int .i64 l,.int .i64 r] 26)).heap.size (w.alloc (.cells #[.slice (some ⟨b,o,none⟩) G.length F,.int .i64 x,.int .i64 l,.int .i64 r] 26)) wa:=E.out.drew.trans (X.mono E.out.drew.size);clear X;by_cases hr:r<bu G s.wh
             · have H:=ak (N.out hr)
               generalize bu G s.wh=T at*;go_wp2_with fail;go_ret;exact⟨aD H.out,(iP I6).2.2.2.2.1⟩
             · have S:=ak (U.out (by omega))
               generalize bu G s.wh=T at*;go_wp2_with fail;go_roundw
               case rel=>exact⟨k+1,by omega,by simp,S,by simpa using I6⟩
               case measure=>simp[intOf];omega
          · have H:=hid (show 0=bJ G x l r from by rw[Iw.out];exact vS fun j h=>Q.out j h (by omega))
            go_wp2_with fail;go_ret;exact⟨aD H.out,z⟩
end Go.Proofs.YtcmlnelpcjfocaaGreatDoor
