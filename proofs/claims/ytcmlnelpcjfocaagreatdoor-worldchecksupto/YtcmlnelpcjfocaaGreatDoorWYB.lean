/- What path.inNames and path.isName answer, for every byte and every text. -/
import Derived.Test.YtcmlnelpcjfocaaGreatDoorWYA
import Derived.Test.YtcmlnelpcjfocaaGreatDoorShelf
import Derived.WalkSpells
import Derived.WalkLawsBesides
import Derived.Handy
import Derived.Deep.QuietTactic
import Derived.BigQuiet
import Derived.RegionTactic
set_option linter.unusedSimpArgs false
set_option linter.unusedVariables false
namespace Go.Proofs.YtcmlnelpcjfocaaGreatDoor
open Go.RowKit Go.Proofs.Tryz
set_option maxHeartbeats 800000
theorem tP (c:UInt8) (w:World):
    Calls prog 222 #[.int .u8 (c.toNat:Int)] w fun e w'=>e= .returned (.bool (dB c))∧w'=w:=by
 go_enter func222,ntmps222
 go_wp2_with (go_at_call 271;refine(Tryz.strings_IndexByte _ _ _).mono ?_;rintro e w' ⟨rfl,rfl⟩)
 all_goals go_ret
 all_goals first
  |exact⟨bt (zy c (by omega)),rfl⟩
  |exact⟨bt (zz c (by omega) (by omega) (by omega)),rfl⟩
theorem l9 (s:ByteArray) (w:World) (N:s.size≤maxLen):
    Calls prog 192 #[.string s] w fun e w'=>e= .returned (.bool (aM s.data.toList))∧w'=w:=by
 unfold maxLen at N;by_cases O:(s.size:Int)<1
 · go_enter func192,ntmps192
   go_wp2_with fail;go_ret;exact⟨bt (kC s (Or.inl (by omega))),rfl⟩
 by_cases P:20<(s.size:Int)
 · go_enter func192,ntmps192
   go_wp2_with fail;go_ret;exact⟨bt (kC s (Or.inr (Or.inl (by omega)))),rfl⟩
 cases E:(s.toList==[46])with
 |true=>
  have f:=hid (show s.toList=[46]from by simpa using E);go_enter func192,ntmps192
  go_wp2_with fail;go_ret;exact⟨bt (kC s (Or.inr (Or.inr (Or.inl f.out)))),rfl⟩
 |false=>
 cases F:(s.toList==[46,46])with
 |true=>
  have f:=hid (show s.toList=[46,46]from by simpa using F);go_enter func192,ntmps192
  go_wp2_with fail;go_ret;exact⟨bt (kC s (Or.inr (Or.inr (Or.inr f.out)))),rfl⟩
 |false=>
 have I:0<s.size:=by omega
 have J:s.size-1<s.size:=by omega
 cases G:((s[0].toNat:Int)==32)with
 |true=>
  have f:=hid (show(s[0].toNat:Int)=32 from by simpa using G);go_enter func192,ntmps192
  go_wp2_with fail;go_ret;exact⟨bt (tB s I f.out),rfl⟩
 |false=>
 cases H:((s[s.size-1].toNat:Int)==32)with
 |true=>
  have f:=hid (show(s[s.size-1].toNat:Int)=32 from by simpa using H);go_enter func192,ntmps192
  go_wp2_with fail;go_ret;exact⟨bt (tC s J f.out),rfl⟩
 |false=>
 have K:Hid (s.data.toList.all dB=true→true=aM s.data.toList):=fun M=>
  tE s (by omega) (by omega) (by simpa using E) (by simpa using F) I (by simpa using G) J (by simpa using H) M
 go_enter func192,ntmps192
 go_wp2_with fail;go_loop [33] (fun i=> ∃k:Nat,k≤s.size∧i= .int .i64 k∧(s.data.toList.take k).all dB=true) (fun i=>s.size-(intOf i).toNat)
 case atStart=>exact⟨0,Nat.zero_le _,rfl,by simp⟩
 case round=>
  obtain⟨k,Q,rfl,d⟩:=hrel
  have A:Hid ((s.data.toList.take k).all dB=true):=d;clear d;by_cases y:k<s.size
  · cases z:dB s[k]with
    |true=>
     go_wp2_with (go_at_call 222;refine(tP _ _).mono ?_;rintro e w' ⟨rfl,rfl⟩)
     go_round
     case rel=>exact⟨k+1,by omega,by go_num,tF s k y A.out z⟩
     case measure=>simp[intOf];omega
    |false=>
     go_wp2_with (go_at_call 222;refine(tP _ _).mono ?_;rintro e w' ⟨rfl,rfl⟩)
     go_ret;exact⟨bt (tD s k y z),rfl⟩
  · go_wp2_with fail
    go_ret;exact⟨bt (K.out (by have:=A.out;rwa [List.take_of_length_le (by simp;omega)]at this)),rfl⟩
theorem zX (s:ByteArray) (w:World) (f:s.size≤maxLen) (h:47∉s.data.toList):
    Calls prog 218 #[.string s,.string ⟨#[47]⟩] w fun e w'=>e= .returned (.tuple #[.string s,.string ⟨#[]⟩,.bool false])∧Below w.heap.size w w':=by
 unfold maxLen at f;have d:Hid (Lib.indexByte s.data.toList 47= -1):=tA _ _ h;clear h;go_enter func218,ntmps218
 go_wp2_with (go_at_call 264;refine(Tryz.stringslite_Index_one _ _ _).mono ?_;rintro e w' ⟨rfl,rfl⟩;rw[d.out])
 go_ret3;exact⟨rfl,Below.refl _ _⟩
theorem zY (s:ByteArray) (a b:List UInt8) (w:World) (E:s.size≤maxLen) (h:47∉a) (d:s.data.toList=a++47::b):
    Calls prog 218 #[.string s,.string ⟨#[47]⟩] w fun e w'=>e= .returned (.tuple #[.string ⟨a.toArray⟩,.string ⟨b.toArray⟩,.bool true])∧Below w.heap.size w w':=by
 unfold maxLen at E;have A:=hid (show Lib.indexByte s.data.toList 47=a.length from by rw[d];exact tz a b 47 h);have f:s.size=a.length+b.length+1:=by rw[Lib.size_eq,d];simp;try omega
 have F:(a.length:Int)≤s.size:=by omega
 have G:(a.length:Int)+1≤s.size:=by omega
 have y:=hid (show s.extract 0 a.length=⟨a.toArray⟩from dN (by rw[Lib.extract_data,d];simp));have z:=hid (show s.extract (a.length+1) s.size=⟨b.toArray⟩from dN (by rw[Lib.extract_data,d,f];simp));clear h d f;go_enter func218,ntmps218
 go_wp2_with (go_at_call 264;refine(Tryz.stringslite_Index_one _ _ _).mono ?_;rintro e w' ⟨rfl,rfl⟩;rw[A.out])
 go_region
 go_wp2;go_ret3;exact⟨by rw[y.out,z.out];rfl,(Below.refl _ _).drew⟩
theorem tQ (s:ByteArray) (w:World) (d:s.size≤maxLen) (h:47∉s.data.toList):
    Calls prog 177 #[.string s,.string ⟨#[47]⟩] w fun e w'=>e= .returned (.tuple #[.string s,.string ⟨#[]⟩,.bool false])∧Below w.heap.size w w':=by
 go_enter func177,ntmps177
 go_wp2_with fail;refine(zX s _ d h).mono ?_
 rintro e w' ⟨rfl,hb⟩;clear d h;go_wp2;go_ret3;exact⟨rfl,hb⟩
theorem tR (s:ByteArray) (a b:List UInt8) (w:World) (y:s.size≤maxLen) (h:47∉a) (d:s.data.toList=a++47::b):
    Calls prog 177 #[.string s,.string ⟨#[47]⟩] w fun e w'=>e= .returned (.tuple #[.string ⟨a.toArray⟩,.string ⟨b.toArray⟩,.bool true])∧Below w.heap.size w w':=by
 have f:Hid (s.data.toList=a++47::b):=d;clear d;go_enter func177,ntmps177
 go_wp2_with fail;refine(zY s a b _ y h f.out).mono ?_
 rintro e w' ⟨rfl,hb⟩;clear y h;go_wp2;go_ret3;exact⟨rfl,hb⟩
def pV (r m:Value):Nat:=match m,r with
 | .bool true,.string s=>s.size+1
 |_,_=>0
theorem fQ (s:ByteArray) (w:World) (Z:s.size≤1000000000000000):
    Calls prog 171 #[.string s] w fun e w'=>e= .returned (.int .i64 (az s.data.toList))∧Below w.heap.size w w':=by
 go_enter func171,ntmps171
 go_wp2_with fail
 go_loopw [3, 4, 5] (fun d r m wr => ∃ (z : List (List UInt8)) (t : ByteArray) (b : Bool), d = .int .i64 z.length ∧ r = .string t ∧ m = .bool b ∧ z.all aM = true ∧ t.size ≤ s.size ∧ z.length ≤ s.size + 1 ∧
     (b=true→aj s.data.toList=z++aj t.data.toList)∧(b=false→aj s.data.toList=z)∧Below w.heap.size w wr) (fun _ r m _=>pV r m)
 case atStart=>exact⟨[],s,true,rfl,rfl,rfl,rfl,Nat.le_refl _,by simp,fun _=>rfl,(fun h=>by cases h),Below.refl _ _⟩
 case round=>
  obtain⟨z,t,b,rfl,rfl,rfl,I,Y,X,N,O,f⟩:=hrel
  have K:Hid (z.all aM=true):=I;clear I;cases b with
  |false=>
   have J:Hid (aj s.data.toList=z):=O rfl;clear N O;by_cases V:6<(z.length:Int)
   · go_wp2_with fail
     go_ret;exact⟨aD (tG s J.out K.out (Or.inl V)),f⟩
   by_cases U:80<(s.size:Int)
   · go_wp2_with fail
     go_ret;exact⟨aD (tG s J.out K.out (Or.inr U)),f⟩
   go_wp2_with fail;go_ret;exact⟨aD (zB s J.out K.out (by omega) (by omega)),f⟩
  |true=>
   have J:Hid (aj s.data.toList=z++aj t.data.toList):=N rfl;clear N O;have T:=zC s t J.out;by_cases F:47∈t.data.toList
   · obtain⟨a,b,P,G⟩:=pJ _ _ F
     have M:Hid (t.data.toList=a++47::b):=G;have U:t.size=a.length+b.length+1:=by rw[Lib.size_eq,G];simp;try omega
     have E:=hid (show aj s.data.toList=z++a::aj b from by rw[J.out,G,pI a b P]);clear F G;cases H:aM a with
     |true=>
      have A:Hid (aM a=true):=H;clear H;go_wp2_with fail;refine(tR t a b _ (by unfold maxLen;omega) P M.out).mono ?_
      rintro e Q ⟨rfl,y⟩;go_wp2_with fail;refine(l9 ⟨a.toArray⟩ _ (by unfold maxLen;rw[jQ];omega)).mono ?_
      rintro e S ⟨rfl,rfl⟩;simp only[A.out];go_wp2_with fail;go_roundw
      case rel=>exact⟨z++[a],⟨b.toArray⟩,true,by simp,rfl,rfl,pL K.out A.out,by rw[jQ];omega,by simp;omega,(fun _=>by rw[E.out];simp),(fun h=>by cases h),f.trans (y.mono f.size)⟩
      case measure=>simp only[pV,jQ];omega
     |false=>
      have A:Hid (aM a=false):=H;clear H;go_wp2_with fail;refine(tR t a b _ (by unfold maxLen;omega) P M.out).mono ?_
      rintro e Q ⟨rfl,y⟩;go_wp2_with fail;refine(l9 ⟨a.toArray⟩ _ (by unfold maxLen;rw[jQ];omega)).mono ?_
      rintro e S ⟨rfl,rfl⟩;simp only[A.out];go_wp2_with fail;go_ret;exact⟨aD (pK s E.out A.out),f.trans (y.mono f.size)⟩
   · have E:=hid (show aj s.data.toList=z++[t.data.toList]from by rw[J.out,kB _ F])
     cases H:aM t.data.toList with
     |true=>
      have A:Hid (aM t.data.toList=true):=H;clear H;go_wp2_with fail;refine(tQ t _ (by unfold maxLen;omega) F).mono ?_
      rintro e Q ⟨rfl,y⟩;go_wp2_with fail;refine(l9 t _ (by unfold maxLen;omega)).mono ?_
      rintro e S ⟨rfl,rfl⟩;simp only[A.out];go_wp2_with fail;go_roundw
      case rel=>exact⟨z++[t.data.toList],⟨#[]⟩,false,by simp,rfl,rfl,pL K.out A.out,by rw[Lib.size_eq];simp,by simp;omega,(fun h=>by cases h),(fun _=>E.out),f.trans (y.mono f.size)⟩
      case measure=>simp only[pV];omega
     |false=>
      have A:Hid (aM t.data.toList=false):=H;clear H;go_wp2_with fail;refine(tQ t _ (by unfold maxLen;omega) F).mono ?_
      rintro e Q ⟨rfl,y⟩;go_wp2_with fail;refine(l9 t _ (by unfold maxLen;omega)).mono ?_
      rintro e S ⟨rfl,rfl⟩;simp only[A.out];go_wp2_with fail;go_ret;exact⟨aD (pK s E.out A.out),f.trans (y.mono f.size)⟩
theorem pW (aT:List ByteArray) (b cap:Nat) (w:World) (hb:b<w.heap.size) (P:aT.length≤1000) (K: ∀i (h:i<aT.length),(aT[i]).size≤1000000000000000)
    (J: ∀i (h:i<aT.length),w.cell? ⟨b,i,none⟩=some (.string aT[i])):
    Calls prog 191 #[.slice (some ⟨b,0,none⟩) aT.length cap] w fun e w'=>e= .returned (.int .i64 (cd (aT.map fun s=>s.data.toList)))∧Below w.heap.size w w':=by
 have I:Hid (∀i (h:i<aT.length),(aT[i]).size≤1000000000000000):=K;have M:Hid (∀i (h:i<aT.length),w.cell? ⟨b,i,none⟩=some (.string aT[i])):=J;clear K J;go_enter func191,ntmps191
 go_wp2_with fail;go_loopw [8] (fun i wr=> ∃k:Nat,k≤aT.length∧i= .int .i64 k∧cd (aT.map fun s=>s.data.toList)=cd ((aT.drop k).map fun s=>s.data.toList)∧Below w.heap.size w wr) (fun i _=>aT.length-(intOf i).toNat)
 case atStart=>exact⟨0,Nat.zero_le _,rfl,rfl,Below.refl _ _⟩
 case round=>
  obtain⟨k,O,rfl,z,d⟩:=hrel
  have E:Hid (cd (aT.map fun s=>s.data.toList)=cd ((aT.drop k).map fun s=>s.data.toList)):=z;clear z;by_cases f:k<aT.length
  · have F:wr.cell? ⟨b,k,none⟩=some (.string aT[k]):=(d.cell (p:=⟨b,k,none⟩) hb).trans (M.out k f)
    have H:Hid (aT.drop k=aT[k]::aT.drop (k+1)):=List.drop_eq_getElem_cons f;cases G:(az (aT[k]).data.toList==0)with
    |true=>
     have A:=hid (show az (aT[k]).data.toList=0 from by simpa using G);clear G;go_wp2_with fail;refine(fQ _ _ (I.out k f)).mono ?_
     rintro e N ⟨rfl,y⟩;rw[A.out];go_wp2_with fail;go_roundw
     case rel=>exact⟨k+1,by omega,by simp,by rw[E.out,H.out,List.map_cons,cd,if_pos A.out],d.trans (y.mono d.size)⟩
     case measure=>simp[intOf];omega
    |false=>
     have A:=hid (show¬az (aT[k]).data.toList=0 from by simpa using G);go_wp2_with fail;refine(fQ _ _ (I.out k f)).mono ?_
     rintro e N ⟨rfl,y⟩;go_wp2_with fail;go_ret;exact⟨aD (by rw[E.out,H.out,List.map_cons,cd,if_neg A.out]),d.trans (y.mono d.size)⟩
  · go_wp2_with fail
    go_ret;exact⟨aD (by rw[E.out,List.drop_of_length_le (by omega)];rfl),d⟩
theorem bn {a b c:World} (d:Below a.heap.size a b) (f:Below b.heap.size b c):Below a.heap.size a c:=d.trans (f.mono d.size)
theorem tS (s:ByteArray) (c:UInt8) (w:World) (d:s.size≤1000000000000000):
    Calls prog 262 #[.string s,.string ⟨#[c]⟩] w fun e w'=>e= .returned (.int .i64 (Lib.lastIndexByte s (c.toNat:Int)))∧w'=w:=
 Tryz.strings_LastIndex_one s ⟨#[c]⟩ rfl (by omega) w
theorem zZ (s:ByteArray) (w:World) (E:s.size≤1000000000000000):
    Calls prog 215 #[.string s] w fun e w'=>e= .returned (.tuple #[.string ⟨(aC s.data.toList).toArray⟩,.string ⟨(Pp.lst s.data.toList).toArray⟩])∧Below w.heap.size w w':=by
 rcases zE s 47 with⟨e,d⟩|⟨a,b,e,d,f⟩
 · have y:Hid (Lib.lastIndexByte s ((47:UInt8).toNat:Int)= -1):=e
   have A:=hid (show s.extract 0 0=⟨(aC s.data.toList).toArray⟩from dN (by rw[Lib.extract_data,m6 d];simp));have z:=hid (show⟨(Pp.lst s.data.toList).toArray⟩=s from by rw[Pp.lst_none d]);clear e d;go_enter func215,ntmps215
   go_wp2_with fail;refine(tS s 47 _ E).mono ?_
   rintro e w' ⟨rfl,rfl⟩;rw[y.out];go_wp2_with fail;go_region
   go_wp2;go_ret2;exact⟨by rw[show(max (-1:Int) 0).toNat=0 from rfl,A.out,z.out];rfl,(Below.refl _ _).drew⟩
 · have y:Hid (Lib.lastIndexByte s ((47:UInt8).toNat:Int)=a.length):=e
   have F:s.size=a.length+b.length+1:=by rw[Lib.size_eq,f];simp;try omega
   have G:(a.length:Int)≤s.size:=by omega
   have H:(a.length:Int)+1≤s.size:=by omega
   have A:=hid (show s.extract 0 a.length=⟨(aC s.data.toList).toArray⟩from dN (by rw[Lib.extract_data,f,gn a d];simp));have z:=hid (show s.extract (a.length+1) s.size=⟨(Pp.lst s.data.toList).toArray⟩from dN (by rw[Lib.extract_data,f,zD a d,F];simp));clear e d f F;go_enter func215,ntmps215
   go_wp2_with fail;refine(tS s 47 _ E).mono ?_
   rintro e w' ⟨rfl,rfl⟩;rw[y.out];go_wp2_with fail;go_region
   go_wp2;go_ret2;exact⟨by rw[A.out,z.out];rfl,(Below.refl _ _).drew⟩
theorem tT (s:ByteArray) (f:TypeId) (w:World) (d:s.size≤1000000000000000):
    Calls prog 191 #[.slice (some ⟨w.heap.size,0,none⟩) 1 1] (w.alloc (.cells #[.string s] f)) fun e w'=>e= .returned (.int .i64 (az s.data.toList))∧Below w.heap.size w w':=by
 refine(pW [s] w.heap.size 1 _ (by simp) (by simp) (fun i h=>?_) (fun i h=>?_)).mono ?_
 · obtain rfl:i=0:=by simpa using h
   exact d
 · obtain rfl:i=0:=by simpa using h
   simp
 · rintro e w' ⟨rfl,hb⟩
   refine⟨aD ?_,((Below.refl _ _).alloc (Nat.le_refl _) _).trans (hb.mono (by simp))⟩
   simp only[List.map,cd];split
   · rename_i h;exact h.symm
   · rfl
theorem iG (s:ByteArray) (w:World) (A:s.size≤1000000000000000):
    Calls prog 173 #[.string s] w fun e w'=>e= .returned (.tuple #[.string ⟨(lW (az s.data.toList) (aC s.data.toList)).toArray⟩,.int .i64 (az s.data.toList)])∧Below w.heap.size w w':=by
 by_cases f:az s.data.toList=0
 · have E:Hid (az s.data.toList=0):=f
   have y:Hid (lW 0 (aC s.data.toList)=aC s.data.toList):=gu rfl _;clear f;go_enter func173,ntmps173
   go_wp2_with fail;refine(tT s _ _ A).mono ?_
   rintro e G ⟨rfl,d⟩;rw[E.out];go_wp2_with fail;refine(zZ s _ A).mono ?_
   rintro e H ⟨rfl,z⟩;go_wp2;go_ret2;exact⟨by rw[E.out,y.out];rfl,d.trans (z.mono d.size)⟩
 · have F:(az s.data.toList==0)=false:=by simpa using f
   have y:Hid (lW (az s.data.toList) (aC s.data.toList)=[]):=m7 f _;clear f;go_enter func173,ntmps173
   go_wp2_with fail;refine(tT s _ _ A).mono ?_
   rintro e G ⟨rfl,d⟩;go_wp2;go_ret2;exact⟨by rw[y.out];rfl,d⟩
theorem gK {w w':World} {base:Nat} {e:TypeId} {size:Nat} {v:Value} {n:Nat} {xs:List Value} (h:w.ownsRow base e size v n xs) (hb:Below w.heap.size w w'):w'.ownsRow base e size v n xs:=by
 obtain⟨A,f⟩:=h
 refine⟨A,?_⟩
 rcases f with f|⟨g,d,cur,F,E,y,r⟩
 · exact .inl f
 · refine .inr ⟨g,d,cur,F,E,?_,r⟩
   have z:g<w.heap.size:=by
    rcases Nat.lt_or_ge g w.heap.size with h|h
    · exact h
    · rw[Array.getElem?_eq_none h]at y;cases y
   rw[hb.block g z];exact y
theorem iH (s:ByteArray):s.toList.isEmpty=true↔s.data.toList=[]:=by rw[Lib.toList_data,List.isEmpty_iff]
theorem kF {s:ByteArray} (h:s.toList.isEmpty=false): ¬s.data.toList=[]:=by
 intro e;rw[←iH,h]at e;cases e
end Go.Proofs.YtcmlnelpcjfocaaGreatDoor
