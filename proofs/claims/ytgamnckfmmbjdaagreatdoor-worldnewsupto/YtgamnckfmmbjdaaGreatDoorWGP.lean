/- What the reference's OpenOf and CheckUploads answer, for every uploads. -/
import Derived.Test.YtgamnckfmmbjdaaGreatDoorWGL
set_option linter.unusedSimpArgs false
set_option linter.unusedVariables false
namespace Go.Proofs.YtgamnckfmmbjdaaGreatDoor
open Go.RowKit Go.Proofs.Tryz
set_option maxHeartbeats 4000000
set_option maxRecDepth 100000
theorem Cj (G:List Se) (v:Value) (p:ByteArray) (w:World) (Q:bR w v G) (hn:G.length≤1000) (A: ∀s∈G,0≤s.si∧s.si≤300):
    Calls prog 77 #[v,.string p] w fun e w'=>e= .returned (.int .i64 (aT G p))∧Below w.heap.size w w':=by
 obtain⟨a,O,rfl,F,z,y⟩:=Q
 have K:Hid (∀i (h:i<G.length),∃b o,a=some ⟨b,o,none⟩∧b<w.heap.size∧eu w b (o+i*5) G[i]):=y;have M:=hid (show∀i (h:i<G.length),0≤(G[i]).si∧(G[i]).si≤300 from fun i h=>A _ (List.getElem_mem h))
 have N:=hid (show∀k,0≤aT (G.take k) p∧aT (G.take k) p≤300*G.length from fun k=>by
  have Z:=nj (L:=G.take k) p fun s E=>A s (List.mem_of_mem_take E)
  have h2:(G.take k).length≤G.length:=by rw[List.length_take];omega
  omega)
 clear y A;go_enter func77,ntmps77
 go_wp2_with fail;go_loopw [5,6] (fun t i wr=> ∃k:Nat,k≤G.length∧i= .int .i64 k∧t= .int .i64 (aT (G.take k) p)∧Below w.heap.size w wr) (fun _ i _=>G.length-(intOf i).toNat)
 case atStart=>exact⟨0,Nat.zero_le _,rfl,rfl,Below.refl _ _⟩
 case round=>
  obtain⟨k,hk,rfl,rfl,d⟩:=hrel
  by_cases u:k<G.length
  · obtain⟨b,o,rfl,hb,H⟩:=K.out k u
    obtain⟨S,U,V,X,Y⟩:=H.below hb d
    obtain⟨s1,s2⟩:=M.out k u
    obtain⟨t1,t2⟩:=N.out k
    have f:aT (G.take (k+1)) p=aT (G.take k) p+(if((G[k]).wh.toList==p.toList)=true then(G[k]).si else 0):=by rw[List.take_succ_eq_append_getElem u,ni]
    have P:=d.size;clear H;generalize G[k]=s at*;generalize aT (G.take k) p=T at*;cases I:(s.wh.toList==p.toList)with
    |true=>
     have j:=hid (show aT (G.take (k+1)) p=T+s.si from by rw[f,I];rfl);clear f;go_wp2_with fail;go_roundw
     case rel=>exact⟨k+1,by omega,by simp,by rw[j.out],d⟩
     case measure=>simp[intOf];omega
    |false=>
     have j:=hid (show aT (G.take (k+1)) p=T from by rw[f,I];simp);clear f;go_wp2_with fail;go_roundw
     case rel=>exact⟨k+1,by omega,by simp,by rw[j.out],d⟩
     case measure=>simp[intOf];omega
  · have J:=hid (show aT (G.take k) p=aT G p from by rw[List.take_of_length_le (by omega)])
    go_wp2_with fail;go_ret;exact⟨an J.out,d⟩
theorem cB (n l m:Int) (w:World):Calls prog 76 #[.int .i64 n,.int .i64 l,.int .i64 m] w fun e w'=>e= .returned (.bool (aS l n m))∧w'=w:=by
 by_cases h:l≤n
 · have a:=hid (show decide (n≤m)=aS l n m from by rw[aS,decide_eq_true h];rfl)
   go_enter func76,ntmps76
   go_wp2;go_ret;exact⟨aV a.out,rfl⟩
 · have a:=hid (show false=aS l n m from by rw[aS,decide_eq_false h];rfl)
   go_enter func76,ntmps76
   go_wp2;go_ret;exact⟨aV a.out,rfl⟩
theorem Ck (G:List Se) (v:Value) (x l r:Int) (w:World) (hv:bR w v G) (hs:jv G):
    Calls prog 33 #[.agg #[v,.int .i64 x,.int .i64 l,.int .i64 r]] w fun e w'=>e= .returned (.int .i64 (aZ G x l r))∧Below w.heap.size w w':=by
 have HV:=ai hv;have HS:=ai hs;obtain⟨a,E,rfl,CP,CL,CD⟩:=hv
 have HL:Hid (∀i (h:i<G.length),∃b o,a=some ⟨b,o,none⟩∧b<w.heap.size∧eu w b (o+i*5) G[i]):=CD;have eg:Enters prog 76:=enters_of func76 (by kernel_rfl) rfl;clear CD hs;have C4:Below w.heap.size w (w.alloc (.cells #[.slice a G.length E,.int .i64 x,.int .i64 l,.int .i64 r] 26)):=(Below.refl _ _).alloc (Nat.le_refl _) _;rcases nd G.length x l r with⟨J,ae⟩|⟨J,N,ae⟩|⟨J,N,h3,ae⟩|⟨J,N,h3,h4,ae⟩|⟨J,N,h3,h4,ae⟩
 · have F:=hid (show aZ G x l r=3 from(jw (by rw[ae];decide)).trans ae)
   have Z:=ai J;clear ae J;go_enter func33,ntmps33
   go_wp2_with fail;refine(cB l 1 1000000 _).mono ?_
   rintro e f ⟨rfl,d⟩;rw[d,Z.out];clear d f;go_wp2;go_ret;exact⟨by rw[F.out];rfl,C4⟩
 · have F:=hid (show aZ G x l r=3 from(jw (by rw[ae];decide)).trans ae)
   have Z:=ai J;have H2:=ai N;clear ae J N;go_enter func33,ntmps33
   go_wp2_with fail;refine(cB l 1 1000000 _).mono ?_
   rintro e f ⟨rfl,d⟩;rw[d,Z.out];clear d f;go_wp2_with fail;refine(cB r 0 100000 _).mono ?_
   rintro e f ⟨rfl,d⟩;rw[d,H2.out];clear d f;go_wp2;go_ret;exact⟨by rw[F.out];rfl,C4⟩
 · have F:=hid (show aZ G x l r=3 from(jw (by rw[ae];decide)).trans ae)
   have Z:=ai J;have H2:=ai N;have H3:=ai h3;clear ae J N h3;go_enter func33,ntmps33
   go_wp2_with fail;refine(cB l 1 1000000 _).mono ?_
   rintro e f ⟨rfl,d⟩;rw[d,Z.out];clear d f;go_wp2_with fail;refine(cB r 0 100000 _).mono ?_
   rintro e f ⟨rfl,d⟩;rw[d,H2.out];clear d f;go_wp2_with fail;refine(cB x 1 1099511627776 _).mono ?_
   rintro e f ⟨rfl,d⟩;rw[d,H3.out];clear d f;go_wp2;go_ret;exact⟨by rw[F.out];rfl,C4⟩
 · have F:=hid (show aZ G x l r=2 from(jw (by rw[ae];decide)).trans ae)
   have Z:=ai J;have H2:=ai N;have H3:=ai h3;have CI:20<(G.length:Int):=by omega
   clear ae J N h3;go_enter func33,ntmps33
   go_wp2_with fail;refine(cB l 1 1000000 _).mono ?_
   rintro e f ⟨rfl,d⟩;rw[d,Z.out];clear d f;go_wp2_with fail;refine(cB r 0 100000 _).mono ?_
   rintro e f ⟨rfl,d⟩;rw[d,H2.out];clear d f;go_wp2_with fail;refine(cB x 1 1099511627776 _).mono ?_
   rintro e f ⟨rfl,d⟩;rw[d,H3.out];clear d f;go_wp2;go_ret;exact⟨by rw[F.out];rfl,C4⟩
 · have C6:=ai ae
   obtain⟨CO,⟨CR,CS⟩,⟨CT,CU⟩,⟨CV,CW⟩⟩:=lo ae
   have Z:=ai J;have H2:=ai N;have H3:=ai h3;have CI: ¬20<(G.length:Int):=by omega
   clear ae J N h3;go_enter func33,ntmps33
   go_wp2_with fail;refine(cB l 1 1000000 _).mono ?_
   rintro e f ⟨rfl,d⟩;rw[d,Z.out];clear d f;go_wp2_with fail;refine(cB r 0 100000 _).mono ?_
   rintro e f ⟨rfl,d⟩;rw[d,H2.out];clear d f;go_wp2_with fail;refine(cB x 1 1099511627776 _).mono ?_
   rintro e f ⟨rfl,d⟩;rw[d,H3.out];clear d f;go_wp2_with fail;go_loopw [4] (fun i wr=> ∃k:Nat,k≤G.length∧i= .int .i64 k∧Hid (∀j (h:j<G.length),j<k→bM x G[j]=0)∧Below (w.alloc (.cells #[.slice a G.length E,.int .i64 x,.int .i64 l,.int .i64 r] 26)).heap.size (w.alloc (.cells #[.slice a G.length E,.int .i64 x,.int .i64 l,.int .i64 r] 26)) wr) (fun i _=>G.length-(intOf i).toNat)
   case atStart=>exact⟨0,Nat.zero_le _,rfl,(fun j _ h=>absurd h (Nat.not_lt_zero _): ∀j (h:j<G.length),j<0→bM x G[j]=0),Below.refl _ _⟩
   case round=>
    obtain⟨k,hk,rfl,P,u⟩:=hrel
    obtain⟨aH,b1,b2,cg,y,K⟩:=fS u
    have A:=ai u;clear u;by_cases H:k<G.length
    · obtain⟨b,o,rfl,hb,he⟩:=HL.out k H
      obtain⟨c0,c1,c2,c3,c4⟩:=he.below hb y
      have CN:=y.size;clear he
      have M:=hid (show¬bM x G[k]=0→bM x G[k]=aZ G x l r from fun h=>by
       have hg:=nk H P.out h;rw[np C6.out (by rw[hg];exact h),hg])
      have S:=hid (show bM x G[k]=0→ ∀j (h:j<G.length),j<k+1→bM x G[j]=0 from fun hh j J N=>by
       by_cases e:j=k
       · subst e;exact hh
       · exact P.out j J (by omega))
      have C8:=(HS.out G[k] (List.getElem_mem H)).1;generalize G[k]=s at*;obtain⟨wz,z⟩: ∃wz,wz=wr.alloc (.cells #[.int .i64 s.nu,.string s.wh,.string s.tx,.int .i64 s.si,.int .i64 s.ti] 125):=⟨_,rfl⟩
      have X:Below (w.alloc (.cells #[.slice (some ⟨b,o,none⟩) G.length E,.int .i64 x,.int .i64 l,.int .i64 r] 26)).heap.size (w.alloc (.cells #[.slice (some ⟨b,o,none⟩) G.length E,.int .i64 x,.int .i64 l,.int .i64 r] 26)) wz:=z▸A.out.alloc A.out.size _;obtain⟨z0,z1,z2,z3,CE,CQ⟩:=fS X
      have s0:wz.cell? ⟨wr.heap.size,0,none⟩=some (.int .i64 s.nu):=by rw[z];simp
      have s1:wz.cell? ⟨wr.heap.size,1,none⟩=some (.string s.wh):=by rw[z];simp
      have s2:wz.cell? ⟨wr.heap.size,2,none⟩=some (.string s.tx):=by rw[z];simp
      have s3:wz.cell? ⟨wr.heap.size,3,none⟩=some (.int .i64 s.si):=by rw[z];simp
      have s4:wz.cell? ⟨wr.heap.size,4,none⟩=some (.int .i64 s.ti):=by rw[z];simp
      have C9:=ai X;have O:=ai CE;clear X CE A y;rcases nf x s with⟨b8,I⟩|⟨b8,dY,I⟩|⟨b8,dY,Y,I⟩|⟨b8,dY,Y,i4,I⟩|⟨b8,dY,Y,i4,i5,I⟩|⟨b8,dY,Y,i4,i5,I⟩
      · have U:=ai b8
        have F:Hid (3=aZ G x l r):=(by rw[←M.out (by rw[I];decide),I]:(3:Int)=aZ G x l r)
        clear I b8;go_wp2_with fail;rw[←z];clear z c0 c1 c2 c3 c4 aH b1 b2 cg;refine(cB s.nu 1 (x-1) _).mono ?_
        rintro e f ⟨rfl,d⟩;rw[d,U.out];clear d f;go_wp2_with fail;go_ret;exact⟨an F.out,O.out⟩
      · have U:=ai b8
        have I2:=ai dY;have F:Hid (3=aZ G x l r):=(by rw[←M.out (by rw[I];decide),I]:(3:Int)=aZ G x l r)
        clear I b8 dY;go_wp2_with fail;rw[←z];clear z c0 c1 c2 c3 c4 aH b1 b2 cg;refine(cB s.nu 1 (x-1) _).mono ?_
        rintro e f ⟨rfl,d⟩;rw[d,U.out];clear d f;go_wp2_with fail;refine(cB s.si 0 300 _).mono ?_
        rintro e f ⟨rfl,d⟩;rw[d,I2.out];clear d f;go_wp2_with fail;go_ret;exact⟨an F.out,O.out⟩
      · have U:=ai b8
        have I2:=ai dY;have I3:=ai Y;have F:Hid (3=aZ G x l r):=(by rw[←M.out (by rw[I];decide),I]:(3:Int)=aZ G x l r)
        clear I b8 dY Y;go_wp2_with fail;rw[←z];clear z c0 c1 c2 c3 c4 aH b1 b2 cg;refine(cB s.nu 1 (x-1) _).mono ?_
        rintro e f ⟨rfl,d⟩;rw[d,U.out];clear d f;go_wp2_with fail;refine(cB s.si 0 300 _).mono ?_
        rintro e f ⟨rfl,d⟩;rw[d,I2.out];clear d f;go_wp2_with fail;refine(cB s.ti 0 2199023255552 _).mono ?_
        rintro e f ⟨rfl,d⟩;rw[d,I3.out];clear d f;go_wp2_with fail;go_ret;exact⟨an F.out,O.out⟩
      · have U:=ai b8
        have I2:=ai dY;have I3:=ai Y;have I4:=ai i4;have F:Hid (1=aZ G x l r):=(by rw[←M.out (by rw[I];decide),I]:(1:Int)=aZ G x l r)
        clear I b8 dY Y i4;go_wp2_with fail;rw[←z];clear z c0 c1 c2 c3 c4 aH b1 b2 cg;refine(cB s.nu 1 (x-1) _).mono ?_
        rintro e f ⟨rfl,d⟩;rw[d,U.out];clear d f;go_wp2_with fail;refine(cB s.si 0 300 _).mono ?_
        rintro e f ⟨rfl,d⟩;rw[d,I2.out];clear d f;go_wp2_with fail;refine(cB s.ti 0 2199023255552 _).mono ?_
        rintro e f ⟨rfl,d⟩;rw[d,I3.out];clear d f;go_wp2_with fail;refine(gB s.wh _ C8).mono ?_
        rintro e f ⟨rfl,d⟩;rw[d,I4.out];clear d f;go_wp2_with fail;go_ret;exact⟨an F.out,O.out⟩
      · have U:=ai b8
        have I2:=ai dY;have I3:=ai Y;have I4:=ai i4;have F:Hid (2=aZ G x l r):=(by rw[←M.out (by rw[I];decide),I]:(2:Int)=aZ G x l r)
        clear I b8 dY Y i4;go_wp2_with fail;rw[←z];clear z c0 c1 c2 c3 c4 aH b1 b2 cg;refine(cB s.nu 1 (x-1) _).mono ?_
        rintro e f ⟨rfl,d⟩;rw[d,U.out];clear d f;go_wp2_with fail;refine(cB s.si 0 300 _).mono ?_
        rintro e f ⟨rfl,d⟩;rw[d,I2.out];clear d f;go_wp2_with fail;refine(cB s.ti 0 2199023255552 _).mono ?_
        rintro e f ⟨rfl,d⟩;rw[d,I3.out];clear d f;go_wp2_with fail;refine(gB s.wh _ C8).mono ?_
        rintro e f ⟨rfl,d⟩;rw[d,I4.out];clear d f;go_wp2_with fail;go_ret;exact⟨an F.out,O.out⟩
      · have U:=ai b8
        have I2:=ai dY;have I3:=ai Y;have I4:=ai i4;have Q:=ai (S.out I);clear I b8 dY Y i4;go_wp2_with fail;rw[←z];clear z c0 c1 c2 c3 c4 aH b1 b2 cg;refine(cB s.nu 1 (x-1) _).mono ?_
        rintro e f ⟨rfl,d⟩;rw[d,U.out];clear d f;go_wp2_with fail;refine(cB s.si 0 300 _).mono ?_
        rintro e f ⟨rfl,d⟩;rw[d,I2.out];clear d f;go_wp2_with fail;refine(cB s.ti 0 2199023255552 _).mono ?_
        rintro e f ⟨rfl,d⟩;rw[d,I3.out];clear d f;go_wp2_with fail;refine(gB s.wh _ C8).mono ?_
        rintro e f ⟨rfl,d⟩;rw[d,I4.out];clear d f;go_wp2_with fail;go_roundw
        case rel=>exact⟨k+1,by omega,by simp,Q,C9.out⟩
        case measure=>simp[intOf];omega
    · have C7:=ai (nl fun j h=>P.out j h (by omega))
      have CH:=ai (qd C7.out);go_wp2_with fail;clear hk H P;go_loopw [6] (fun i wr=> ∃k:Nat,(k≤G.length∨k=1)∧1≤k∧i= .int .i64 k∧Hid (∀j (h:j+1<G.length),j+1<k→(G[j]).nu<(G[j+1]).nu)∧Below (w.alloc (.cells #[.slice a G.length E,.int .i64 x,.int .i64 l,.int .i64 r] 26)).heap.size (w.alloc (.cells #[.slice a G.length E,.int .i64 x,.int .i64 l,.int .i64 r] 26)) wr) (fun i _=>G.length-(intOf i).toNat)
      case atStart=>exact⟨1,Or.inr rfl,Nat.le_refl _,rfl,(fun j _ h=>absurd h (by omega): ∀j (h:j+1<G.length),j+1<1→(G[j]).nu<(G[j+1]).nu),A.out⟩
      case round=>
       clear aH b1 b2 cg y K A;obtain⟨k,hk,CM,rfl,P,u⟩:=hrel
       obtain⟨aH,b1,b2,cg,y,K⟩:=fS u
       have A:=ai u;clear u;obtain⟨m,rfl⟩: ∃m,k=m+1:=⟨k-1,by omega⟩
       by_cases H:m+1<G.length
       · obtain⟨b,o,rfl,hb,he⟩:=HL.out m (by omega)
         obtain⟨c0,_⟩:=he.below hb y
         obtain⟨b',o',C3,CJ,CF⟩:=HL.out (m+1) H
         obtain⟨rfl,rfl⟩:b'=b∧o'=o:=by simp at C3;exact⟨C3.1.symm,C3.2.symm⟩
         obtain⟨d0,_⟩:=CF.below CJ y
         clear he CF C3;by_cases hn:(G[m]).nu<(G[m+1]).nu
         · have Q:=hid (show∀j (h:j+1<G.length),j+1<m+1+1→(G[j]).nu<(G[j+1]).nu from fun j J N=>by
            by_cases e:j=m
            · subst e;exact hn
            · exact P.out j J (by omega))
           generalize (G[m]).nu=p at*;generalize (G[m+1]).nu=q at*;go_wp2_with fail;go_region
           go_wp2_with fail;go_roundw
           case rel=>exact⟨m+1+1,by omega,by omega,by simp,Q,A.out.drew⟩
           case measure=>simp[intOf];omega
         · have F:=hid (show 4=aZ G x l r from(nr C6.out C7.out (ng H hn)).symm)
           generalize (G[m]).nu=p at*;generalize (G[m+1]).nu=q at*;go_wp2_with fail;go_region
           go_wp2_with fail;go_ret;exact⟨an F.out,y.drew⟩
       · have CG:=ai (nh fun j h=>P.out j h (by omega))
         have CC:=ai (nt C6.out C7.out CG.out);go_wp2_with fail;clear hk CM H P;go_loopw [7] (fun i wr=> ∃k:Nat,k≤G.length∧i= .int .i64 k∧Hid (∀j (h:j<G.length),j<k→aT G (G[j]).wh≤r)∧Below (w.alloc (.cells #[.slice a G.length E,.int .i64 x,.int .i64 l,.int .i64 r] 26)).heap.size (w.alloc (.cells #[.slice a G.length E,.int .i64 x,.int .i64 l,.int .i64 r] 26)) wr) (fun i _=>G.length-(intOf i).toNat)
         case atStart=>exact⟨0,Nat.zero_le _,rfl,(fun j _ h=>absurd h (Nat.not_lt_zero _): ∀j (h:j<G.length),j<0→aT G (G[j]).wh≤r),A.out⟩
         case round=>
          clear aH b1 b2 cg y K A;obtain⟨k,hk,rfl,P,u⟩:=hrel
          obtain⟨aH,b1,b2,cg,y,K⟩:=fS u
          have A:=ai u;clear u;by_cases H:k<G.length
          · obtain⟨b,o,rfl,hb,he⟩:=HL.out k H
            obtain⟨c0,c1,c2,c3,c4⟩:=he.below hb y
            have CN:=y.size;clear he;have M:=hid (show r<aT G (G[k]).wh→10=aZ G x l r from fun h=>by rw[CC.out];exact p9 H h)
            have S:=hid (show aT G (G[k]).wh≤r→ ∀j (h:j<G.length),j<k+1→aT G (G[j]).wh≤r from fun hh j J N=>by
             by_cases e:j=k
             · subst e;exact hh
             · exact P.out j J (by omega))
            generalize G[k]=s at*;have CK:b<wr.heap.size:=by omega
            go_wp2_with fail
            go_region_held3 (fun W=>W.cell? ⟨w.heap.size,0,none⟩=some (.slice (some ⟨b,o,none⟩) G.length E)∧W.cell? ⟨w.heap.size,3,none⟩=some (.int .i64 r)∧W.cell? ⟨b,o+k*5+1,none⟩=some (.string s.wh)) (go_keep) (first
             |(go_at_call 77;refine(Cj G _ s.wh _ (HV.out.below y.drew) (by omega) CH.out).mono ?_;rintro e wa ⟨rfl,V⟩;have k0:=(V.cell (p:=⟨w.heap.size,0,none⟩) K).trans aH;have k3:=(V.cell (p:=⟨w.heap.size,3,none⟩) K).trans cg;have k1:=(V.cell (p:=⟨b,o+k*5+1,none⟩) CK).trans c1))
            all_goals
             have C5:Below (w.alloc (.cells #[.slice (some ⟨b,o,none⟩) G.length E,.int .i64 x,.int .i64 l,.int .i64 r] 26)).heap.size (w.alloc (.cells #[.slice (some ⟨b,o,none⟩) G.length E,.int .i64 x,.int .i64 l,.int .i64 r] 26)) wa:=A.out.drew.trans (V.mono A.out.drew.size);clear V;by_cases hr:r<aT G s.wh
             · have F:=ai (M.out hr)
               generalize aT G s.wh=T at*;go_wp2_with fail;go_ret;exact⟨an F.out,(fS C5).2.2.2.2.1⟩
             · have Q:=ai (S.out (by omega))
               generalize aT G s.wh=T at*;go_wp2_with fail;go_roundw
               case rel=>exact⟨k+1,by omega,by simp,Q,by simpa using C5⟩
               case measure=>simp[intOf];omega
          · have F:=hid (show 0=aZ G x l r from by rw[CC.out];exact qb fun j h=>P.out j h (by omega))
            go_wp2_with fail;go_ret;exact⟨an F.out,y⟩
end Go.Proofs.YtgamnckfmmbjdaaGreatDoor
