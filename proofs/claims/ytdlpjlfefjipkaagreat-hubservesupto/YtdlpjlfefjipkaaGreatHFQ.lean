/- What the reference's OpenOf and CheckUploads answer, for every uploads. -/
import Derived.Test.YtdlpjlfefjipkaaGreatHFJ
set_option linter.unusedSimpArgs false
set_option linter.unusedVariables false
namespace Go.Proofs.YtdlpjlfefjipkaaGreat
open Go.RowKit Go.Proofs.Tryz
set_option maxHeartbeats 4000000
set_option maxRecDepth 100000
theorem qS (G:List Se) (v:Value) (p:ByteArray) (w:World) (N:aK w v G) (Y:G.length≤1000) (x: ∀s∈G,0≤s.si∧s.si≤300):
    Calls prog 46 #[v,p] w fun e w'=>e= .returned (.int .i64 (aW G p))∧Below w.heap.size w w':=by
 obtain⟨a,J,rfl,A,u,j⟩:=N
 have F:Hid (∀i (h:i<G.length),∃b o,a=some ⟨b,o,none⟩∧b<w.heap.size∧et w b (o+i*5) G[i]):=j;have H:=hid (show∀i (h:i<G.length),0≤(G[i]).si∧(G[i]).si≤300 from fun i h=>x _ (List.getElem_mem h))
 have I:=hid (show∀k,0≤aW (G.take k) p∧aW (G.take k) p≤300*G.length from fun k=>by
  have U:=ko (L:=G.take k) p fun s z=>x s (List.mem_of_mem_take z)
  have V:(G.take k).length≤G.length:=by rw[List.length_take];omega
  omega)
 clear j x;go_enter func46,ntmps46
 go_wp2;go_loopw [5,6] (fun t i wr=> ∃k:Nat,k≤G.length∧i= .int .i64 k∧t= .int .i64 (aW (G.take k) p)∧Below w.heap.size w wr) (fun _ i _=>G.length-(intOf i).toNat)
 case atStart=>exact⟨0,Nat.zero_le _,rfl,rfl,aw⟩
 case round=>
  obtain⟨k,X,rfl,rfl,c⟩:=hrel
  by_cases g:k<G.length
  · obtain⟨b,o,rfl,K,B⟩:=F.out k g
    obtain⟨O,P,Q,R,S⟩:=B.below K c
    obtain⟨Z,s2⟩:=H.out k g
    obtain⟨t1,t2⟩:=I.out k
    have d:aW (G.take (k+1)) p=aW (G.take k) p+(if((G[k]).wh.toList==p.toList)=true then(G[k]).si else 0):=by rw[List.take_succ_eq_append_getElem g,pB]
    have M:=c.size;clear B;generalize G[k]=s at*;generalize aW (G.take k) p=T at*;cases C:(s.wh.toList==p.toList)with
    |true=>
     have f:=hid (show aW (G.take (k+1)) p=T+s.si from by rw[d,C];rfl);clear d;go_wp2;go_roundw
     case rel=>exact⟨k+1,by omega,by simp,by rw[f.out],c⟩
     case measure=>simp[intOf];omega
    |false=>
     have f:=hid (show aW (G.take (k+1)) p=T from by rw[d,C];simp);clear d;go_wp2;go_roundw
     case rel=>exact⟨k+1,by omega,by simp,by rw[f.out],c⟩
     case measure=>simp[intOf];omega
  · have E:=hid (show aW (G.take k) p=aW G p from by rw[List.take_of_length_le (by omega)])
    go_wp2;go_ret;exact⟨aB E.out,c⟩
theorem dC (n l m:Int) (w:World):Calls prog 45 #[n,l,m] w fun e w'=>e= .returned (.bool (a9 l n m))∧w'=w:=by
 by_cases h:l≤n
 · have a:=hid (show decide (n≤m)=a9 l n m from by rw[a9,decide_eq_true h];rfl)
   go_enter func45,ntmps45
   go_wp2;go_ret;exact⟨br a.out,rfl⟩
 · have a:=hid (show false=a9 l n m from by rw[a9,decide_eq_false h];rfl)
   go_enter func45,ntmps45
   go_wp2;go_ret;exact⟨br a.out,rfl⟩
theorem mD (G:List Se) (v:Value) (x l r:Int) (w:World) (hv:aK w v G) (hs:bq G):
    Calls prog 17 #[.agg #[v,x,l,r]] w fun e w'=>e= .returned (.int .i64 (be G x l r))∧Below w.heap.size w w':=by
 have HV:=ac hv;have HS:=ac hs;obtain⟨a,A,rfl,ER,EN,E8⟩:=hv
 have HL:Hid (∀i (h:i<G.length),∃b o,a=some ⟨b,o,none⟩∧b<w.heap.size∧et w b (o+i*5) G[i]):=E8;have eg:Enters prog 45:=enters_of func45 (by kernel_rfl) rfl;clear E8 hs;have E1:Below w.heap.size w (w.alloc (.cells #[.slice a G.length A,x,l,r] 26)):=ak;rcases pw G.length x l r with⟨F,hE⟩|⟨F,K,hE⟩|⟨F,K,h3,hE⟩|⟨F,K,h3,h4,hE⟩|⟨F,K,h3,h4,hE⟩
 · have B:=hid (show be G x l r=3 from(k9 (by rw[hE];decide)).trans hE)
   have Y:=ac F;clear hE F;go_enter func17,ntmps17
   go_wp2_with fail;refine(dC l 1 1000000 _).mono ?_
   rintro e d ⟨rfl,c⟩;rw[c,Y.out];clear c d;go_wp2;go_ret;exact⟨by rw[B.out];rfl,E1⟩
 · have B:=hid (show be G x l r=3 from(k9 (by rw[hE];decide)).trans hE)
   have Y:=ac F;have H2:=ac K;clear hE F K;go_enter func17,ntmps17
   go_wp2_with fail;refine(dC l 1 1000000 _).mono ?_
   rintro e d ⟨rfl,c⟩;rw[c,Y.out];clear c d;go_wp2_with fail;refine(dC r 0 100000 _).mono ?_
   rintro e d ⟨rfl,c⟩;rw[c,H2.out];clear c d;go_wp2;go_ret;exact⟨by rw[B.out];rfl,E1⟩
 · have B:=hid (show be G x l r=3 from(k9 (by rw[hE];decide)).trans hE)
   have Y:=ac F;have H2:=ac K;have H3:=ac h3;clear hE F K h3;go_enter func17,ntmps17
   go_wp2_with fail;refine(dC l 1 1000000 _).mono ?_
   rintro e d ⟨rfl,c⟩;rw[c,Y.out];clear c d;go_wp2_with fail;refine(dC r 0 100000 _).mono ?_
   rintro e d ⟨rfl,c⟩;rw[c,H2.out];clear c d;go_wp2_with fail;refine(dC x 1 1099511627776 _).mono ?_
   rintro e d ⟨rfl,c⟩;rw[c,H3.out];clear c d;go_wp2;go_ret;exact⟨by rw[B.out];rfl,E1⟩
 · have B:=hid (show be G x l r=2 from(k9 (by rw[hE];decide)).trans hE)
   have Y:=ac F;have H2:=ac K;have H3:=ac h3;have EK:20<(G.length:Int):=by omega
   clear hE F K h3;go_enter func17,ntmps17
   go_wp2_with fail;refine(dC l 1 1000000 _).mono ?_
   rintro e d ⟨rfl,c⟩;rw[c,Y.out];clear c d;go_wp2_with fail;refine(dC r 0 100000 _).mono ?_
   rintro e d ⟨rfl,c⟩;rw[c,H2.out];clear c d;go_wp2_with fail;refine(dC x 1 1099511627776 _).mono ?_
   rintro e d ⟨rfl,c⟩;rw[c,H3.out];clear c d;go_wp2;go_ret;exact⟨by rw[B.out];rfl,E1⟩
 · have E3:=ac hE
   obtain⟨EQ,⟨ET,EU⟩,⟨EV,EW⟩,⟨EX,EY⟩⟩:=cQ hE
   have Y:=ac F;have H2:=ac K;have H3:=ac h3;have EK: ¬20<(G.length:Int):=by omega
   clear hE F K h3;go_enter func17,ntmps17
   go_wp2_with fail;refine(dC l 1 1000000 _).mono ?_
   rintro e d ⟨rfl,c⟩;rw[c,Y.out];clear c d;go_wp2_with fail;refine(dC r 0 100000 _).mono ?_
   rintro e d ⟨rfl,c⟩;rw[c,H2.out];clear c d;go_wp2_with fail;refine(dC x 1 1099511627776 _).mono ?_
   rintro e d ⟨rfl,c⟩;rw[c,H3.out];clear c d;go_wp2;go_loopw [4] (fun i wr=> ∃k:Nat,k≤G.length∧i= .int .i64 k∧Hid (∀j (h:j<G.length),j<k→cL x G[j]=0)∧Below (w.alloc (.cells #[.slice a G.length A,x,l,r] 26)).heap.size (w.alloc (.cells #[.slice a G.length A,x,l,r] 26)) wr) (fun i _=>G.length-(intOf i).toNat)
   case atStart=>exact⟨0,Nat.zero_le _,rfl,(fun j _ h=>absurd h (Nat.not_lt_zero _): ∀j (h:j<G.length),j<0→cL x G[j]=0),aw⟩
   case round=>
    obtain⟨k,hk,rfl,O,f⟩:=hrel
    obtain⟨S,b1,b2,b3,g,H⟩:=ft f
    have z:=ac f;clear f;by_cases C:k<G.length
    · obtain⟨b,o,rfl,hb,he⟩:=HL.out k C
      obtain⟨c0,c1,c2,c3,c4⟩:=he.below hb g
      have EP:=g.size;clear he
      have J:=hid (show¬cL x G[k]=0→cL x G[k]=be G x l r from fun h=>by
       have hg:=pC C O.out h;rw[pE E3.out (by rw[hg];exact h),hg])
      have Q:=hid (show cL x G[k]=0→ ∀j (h:j<G.length),j<k+1→cL x G[j]=0 from fun hh j F K=>by
       by_cases e:j=k
       · subst e;exact hh
       · exact O.out j F (by omega))
      have E5:=(HS.out G[k] (List.getElem_mem C)).1;generalize G[k]=s at*;obtain⟨wz,u⟩: ∃wz,wz=wr.alloc (.cells #[s.nu,s.wh,s.tx,s.si,s.ti] 79):=⟨_,rfl⟩
      have V:Below (w.alloc (.cells #[.slice (some ⟨b,o,none⟩) G.length A,x,l,r] 26)).heap.size (w.alloc (.cells #[.slice (some ⟨b,o,none⟩) G.length A,x,l,r] 26)) wz:=u▸z.out.alloc z.out.size _;obtain⟨z0,z1,z2,z3,E9,ES⟩:=ft V
      have s0:wz.cell? ⟨wr.heap.size,0,none⟩=some (.int .i64 s.nu):=by rw[u];simp
      have s1:wz.cell? ⟨wr.heap.size,1,none⟩=some (.string s.wh):=by rw[u];simp
      have s2:wz.cell? ⟨wr.heap.size,2,none⟩=some (.string s.tx):=by rw[u];simp
      have s3:wz.cell? ⟨wr.heap.size,3,none⟩=some (.int .i64 s.si):=by rw[u];simp
      have s4:wz.cell? ⟨wr.heap.size,4,none⟩=some (.int .i64 s.ti):=by rw[u];simp
      have E6:=ac V;have N:=ac E9;clear V E9 z g;rcases px x s with⟨I,E⟩|⟨I,M,E⟩|⟨I,M,X,E⟩|⟨I,M,X,i4,E⟩|⟨I,M,X,i4,i5,E⟩|⟨I,M,X,i4,i5,E⟩
      · have R:=ac I
        have B:Hid (3=be G x l r):=(by rw[←J.out (by rw[E];decide),E]:(3:Int)=be G x l r)
        clear E I;go_wp2_with fail;rw[←u];clear u c0 c1 c2 c3 c4 S b1 b2 b3;refine(dC s.nu 1 (x-1) _).mono ?_
        rintro e d ⟨rfl,c⟩;rw[c,R.out];clear c d;go_wp2;go_ret;exact⟨aB B.out,N.out⟩
      · have R:=ac I
        have Z:=ac M;have B:Hid (3=be G x l r):=(by rw[←J.out (by rw[E];decide),E]:(3:Int)=be G x l r)
        clear E I M;go_wp2_with fail;rw[←u];clear u c0 c1 c2 c3 c4 S b1 b2 b3;refine(dC s.nu 1 (x-1) _).mono ?_
        rintro e d ⟨rfl,c⟩;rw[c,R.out];clear c d;go_wp2_with fail;refine(dC s.si 0 300 _).mono ?_
        rintro e d ⟨rfl,c⟩;rw[c,Z.out];clear c d;go_wp2;go_ret;exact⟨aB B.out,N.out⟩
      · have R:=ac I
        have Z:=ac M;have I3:=ac X;have B:Hid (3=be G x l r):=(by rw[←J.out (by rw[E];decide),E]:(3:Int)=be G x l r)
        clear E I M X;go_wp2_with fail;rw[←u];clear u c0 c1 c2 c3 c4 S b1 b2 b3;refine(dC s.nu 1 (x-1) _).mono ?_
        rintro e d ⟨rfl,c⟩;rw[c,R.out];clear c d;go_wp2_with fail;refine(dC s.si 0 300 _).mono ?_
        rintro e d ⟨rfl,c⟩;rw[c,Z.out];clear c d;go_wp2_with fail;refine(dC s.ti 0 2199023255552 _).mono ?_
        rintro e d ⟨rfl,c⟩;rw[c,I3.out];clear c d;go_wp2;go_ret;exact⟨aB B.out,N.out⟩
      · have R:=ac I
        have Z:=ac M;have I3:=ac X;have I4:=ac i4;have B:Hid (1=be G x l r):=(by rw[←J.out (by rw[E];decide),E]:(1:Int)=be G x l r)
        clear E I M X i4;go_wp2_with fail;rw[←u];clear u c0 c1 c2 c3 c4 S b1 b2 b3;refine(dC s.nu 1 (x-1) _).mono ?_
        rintro e d ⟨rfl,c⟩;rw[c,R.out];clear c d;go_wp2_with fail;refine(dC s.si 0 300 _).mono ?_
        rintro e d ⟨rfl,c⟩;rw[c,Z.out];clear c d;go_wp2_with fail;refine(dC s.ti 0 2199023255552 _).mono ?_
        rintro e d ⟨rfl,c⟩;rw[c,I3.out];clear c d;go_wp2_with fail;refine(aM s.wh _ E5).mono ?_
        rintro e d ⟨rfl,c⟩;rw[c,I4.out];clear c d;go_wp2;go_ret;exact⟨aB B.out,N.out⟩
      · have R:=ac I
        have Z:=ac M;have I3:=ac X;have I4:=ac i4;have B:Hid (2=be G x l r):=(by rw[←J.out (by rw[E];decide),E]:(2:Int)=be G x l r)
        clear E I M X i4;go_wp2_with fail;rw[←u];clear u c0 c1 c2 c3 c4 S b1 b2 b3;refine(dC s.nu 1 (x-1) _).mono ?_
        rintro e d ⟨rfl,c⟩;rw[c,R.out];clear c d;go_wp2_with fail;refine(dC s.si 0 300 _).mono ?_
        rintro e d ⟨rfl,c⟩;rw[c,Z.out];clear c d;go_wp2_with fail;refine(dC s.ti 0 2199023255552 _).mono ?_
        rintro e d ⟨rfl,c⟩;rw[c,I3.out];clear c d;go_wp2_with fail;refine(aM s.wh _ E5).mono ?_
        rintro e d ⟨rfl,c⟩;rw[c,I4.out];clear c d;go_wp2;go_ret;exact⟨aB B.out,N.out⟩
      · have R:=ac I
        have Z:=ac M;have I3:=ac X;have I4:=ac i4;have P:=ac (Q.out E);clear E I M X i4;go_wp2_with fail;rw[←u];clear u c0 c1 c2 c3 c4 S b1 b2 b3;refine(dC s.nu 1 (x-1) _).mono ?_
        rintro e d ⟨rfl,c⟩;rw[c,R.out];clear c d;go_wp2_with fail;refine(dC s.si 0 300 _).mono ?_
        rintro e d ⟨rfl,c⟩;rw[c,Z.out];clear c d;go_wp2_with fail;refine(dC s.ti 0 2199023255552 _).mono ?_
        rintro e d ⟨rfl,c⟩;rw[c,I3.out];clear c d;go_wp2_with fail;refine(aM s.wh _ E5).mono ?_
        rintro e d ⟨rfl,c⟩;rw[c,I4.out];clear c d;go_wp2;go_roundw
        case rel=>exact⟨k+1,by omega,by simp,P,E6.out⟩
        case measure=>simp[intOf];omega
    · have E4:=ac (pD fun j h=>O.out j h (by omega))
      have EJ:=ac (ik E4.out);go_wp2_with fail;clear hk C O;go_loopw [6] (fun i wr=> ∃k:Nat,(k≤G.length∨k=1)∧1≤k∧i= .int .i64 k∧Hid (∀j (h:j+1<G.length),j+1<k→(G[j]).nu<(G[j+1]).nu)∧Below (w.alloc (.cells #[.slice a G.length A,x,l,r] 26)).heap.size (w.alloc (.cells #[.slice a G.length A,x,l,r] 26)) wr) (fun i _=>G.length-(intOf i).toNat)
      case atStart=>exact⟨1,Or.inr rfl,ax,rfl,(fun j _ h=>absurd h (by omega): ∀j (h:j+1<G.length),j+1<1→(G[j]).nu<(G[j+1]).nu),z.out⟩
      case round=>
       clear S b1 b2 b3 g H z;obtain⟨k,hk,EO,rfl,O,f⟩:=hrel
       obtain⟨S,b1,b2,b3,g,H⟩:=ft f
       have z:=ac f;clear f;obtain⟨m,rfl⟩: ∃m,k=m+1:=⟨k-1,by omega⟩
       by_cases C:m+1<G.length
       · obtain⟨b,o,rfl,hb,he⟩:=HL.out m (by omega)
         obtain⟨c0,_⟩:=he.below hb g
         obtain⟨b',o',E0,EL,EH⟩:=HL.out (m+1) C
         obtain⟨rfl,rfl⟩:b'=b∧o'=o:=by simp at E0;exact⟨E0.1.symm,E0.2.symm⟩
         obtain⟨d0,_⟩:=EH.below EL g
         clear he EH E0;by_cases hn:(G[m]).nu<(G[m+1]).nu
         · have P:=hid (show∀j (h:j+1<G.length),j+1<m+1+1→(G[j]).nu<(G[j+1]).nu from fun j F K=>by
            by_cases e:j=m
            · subst e;exact hn
            · exact O.out j F (by omega))
           generalize (G[m]).nu=p at*;generalize (G[m+1]).nu=q at*;go_wp2_with fail;go_region
           go_wp2;go_roundw
           case rel=>exact⟨m+1+1,by omega,by omega,by simp,P,z.out.drew⟩
           case measure=>simp[intOf];omega
         · have B:=hid (show 4=be G x l r from(pF E3.out E4.out (py C hn)).symm)
           generalize (G[m]).nu=p at*;generalize (G[m+1]).nu=q at*;go_wp2_with fail;go_region
           go_wp2;go_ret;exact⟨aB B.out,g.drew⟩
       · have EI:=ac (pA fun j h=>O.out j h (by omega))
         have E7:=ac (pG E3.out E4.out EI.out);go_wp2_with fail;clear hk EO C O;go_loopw [7] (fun i wr=> ∃k:Nat,k≤G.length∧i= .int .i64 k∧Hid (∀j (h:j<G.length),j<k→aW G (G[j]).wh≤r)∧Below (w.alloc (.cells #[.slice a G.length A,x,l,r] 26)).heap.size (w.alloc (.cells #[.slice a G.length A,x,l,r] 26)) wr) (fun i _=>G.length-(intOf i).toNat)
         case atStart=>exact⟨0,Nat.zero_le _,rfl,(fun j _ h=>absurd h (Nat.not_lt_zero _): ∀j (h:j<G.length),j<0→aW G (G[j]).wh≤r),z.out⟩
         case round=>
          clear S b1 b2 b3 g H z;obtain⟨k,hk,rfl,O,f⟩:=hrel
          obtain⟨S,b1,b2,b3,g,H⟩:=ft f
          have z:=ac f;clear f;by_cases C:k<G.length
          · obtain⟨b,o,rfl,hb,he⟩:=HL.out k C
            obtain⟨c0,c1,c2,c3,c4⟩:=he.below hb g
            have EP:=g.size;clear he;have J:=hid (show r<aW G (G[k]).wh→10=be G x l r from fun h=>by rw[E7.out];exact tg C h)
            have Q:=hid (show aW G (G[k]).wh≤r→ ∀j (h:j<G.length),j<k+1→aW G (G[j]).wh≤r from fun hh j F K=>by
             by_cases e:j=k
             · subst e;exact hh
             · exact O.out j F (by omega))
            generalize G[k]=s at*;have EM:b<wr.heap.size:=by omega
            go_wp2_with fail
            go_region_held3 (fun W=>W.cell? ⟨w.heap.size,0,none⟩=some (.slice (some ⟨b,o,none⟩) G.length A)∧W.cell? ⟨w.heap.size,3,none⟩=some (.int .i64 r)∧W.cell? ⟨b,o+k*5+1,none⟩=some (.string s.wh)) (go_keep) (first
             |(go_at_call 46;refine(qS G _ s.wh _ (HV.out.below g.drew) (by omega) EJ.out).mono ?_;rintro e wa ⟨rfl,U⟩;have k0:=(U.cell (p:=⟨w.heap.size,0,none⟩) H).trans S;have k3:=(U.cell (p:=⟨w.heap.size,3,none⟩) H).trans b3;have k1:=(U.cell (p:=⟨b,o+k*5+1,none⟩) EM).trans c1))
            all_goals
             have E2:Below (w.alloc (.cells #[.slice (some ⟨b,o,none⟩) G.length A,x,l,r] 26)).heap.size (w.alloc (.cells #[.slice (some ⟨b,o,none⟩) G.length A,x,l,r] 26)) wa:=z.out.drew.trans (U.mono z.out.drew.size);clear U;by_cases hr:r<aW G s.wh
             · have B:=ac (J.out hr)
               generalize aW G s.wh=T at*;go_wp2;go_ret;exact⟨aB B.out,(ft E2).2.2.2.2.1⟩
             · have P:=ac (Q.out (by omega))
               generalize aW G s.wh=T at*;go_wp2;go_roundw
               case rel=>exact⟨k+1,by omega,by simp,P,by simpa using E2⟩
               case measure=>simp[intOf];omega
          · have B:=hid (show 0=be G x l r from by rw[E7.out];exact th fun j h=>O.out j h (by omega))
            go_wp2;go_ret;exact⟨aB B.out,g⟩
end Go.Proofs.YtdlpjlfefjipkaaGreat
