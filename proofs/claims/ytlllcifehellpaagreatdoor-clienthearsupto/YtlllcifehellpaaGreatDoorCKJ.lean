/- Plain mathematics of paths, fourth part: what goes aside is a path. -/
import Derived.Test.YtlllcifehellpaaGreatDoorCKA
import Derived.Test.YtlllcifehellpaaGreatDoorCKI
set_option linter.unusedSimpArgs false
set_option linter.unusedVariables false
namespace Go.Proofs.YtlllcifehellpaaGreatDoor.Pp

theorem last_split4 (l:List UInt8):(47∉l∧par l=[]∧lst l=l)∨(l=par l++47::lst l∧47∉lst l):=by
 by_cases h:47∈l.reverse
 · right
   obtain⟨a,b,ha,hab⟩:=split_at _ _ h
   have e:l=b.reverse++47::a.reverse:=by
    have:=congrArg List.reverse hab
    simpa using this
   have h2:47∉a.reverse:=by simpa using ha
   have e1:par l=b.reverse:=by rw[e,par_cut _ h2]
   have e2:lst l=a.reverse:=by rw[e,lst_cut _ h2]
   rw[e1,e2];exact⟨e,h2⟩
 · left
   have h2:47∉l:=by simpa using h
   exact⟨h2,par_none h2,lst_none h2⟩
theorem names_parts {l:List UInt8} (h:(nm l).all nameB=true):nameB (lst l)=true∧(par l=[]∨(nm (par l)).all nameB=true):=by
 rcases last_split4 l with⟨h1,e1,e2⟩|⟨e,h1⟩
 · rw[nm_none l h1]at h
   rw[e2];exact⟨by simpa using h,Or.inl e1⟩
 · rw[e,nm_app,nm_none _ h1,List.all_append]at h
   simp only[Bool.and_eq_true,List.all_cons,List.all_nil,Bool.and_true]at h;exact⟨h.2,Or.inr h.1⟩
theorem jn_names {p n:List UInt8} (hn:nameB n=true) (hp:p=[]∨(nm p).all nameB=true):(nm (jn p n)).all nameB=true:=by
 unfold jn;split
 · rw[nm_none n (no_slash hn)];simp[hn]
 · rename_i e
   rcases hp with h|h
   · exact absurd h e
   · rw[nm_app,nm_none n (no_slash hn)]
     exact all_app h (by simp[hn])
theorem name_iff (l:List UInt8):nameB l=true↔(∀c∈l,okB c=true)∧1≤l.length∧l.length≤20∧l.head?≠some 32∧l.getLast?≠some 32∧l≠[46]∧l≠[46,46]:=by
 simp only[nameB,Bool.and_eq_true,decide_eq_true_eq,bne_iff_ne,List.all_eq_true];constructor
 · rintro ⟨⟨⟨⟨⟨⟨a,b⟩,c⟩,d⟩,e⟩,f⟩,g⟩;exact⟨a,b,c,d,e,f,g⟩
 · rintro ⟨a,b,c,d,e,f,g⟩;exact⟨⟨⟨⟨⟨⟨a,b⟩,c⟩,d⟩,e⟩,f⟩,g⟩
theorem dig_ok (u:Nat):okB (UInt8.ofNat (48+u % 10))=true:=by
 rw[okB_iff,UInt8.toNat_ofNat'];omega
theorem dec_ok: ∀(n u:Nat),u<n→ ∀c∈Lib.decDigits u,okB c=true
 |0,u,h=>absurd h (Nat.not_lt_zero _)
 |n+1,u,h=>by
  intro c hc;rw[Lib.decDigits]at hc;split at hc
  · rename_i h1
    rw[List.mem_singleton]at hc;rw[hc,show 48+u=48+u % 10 by omega];exact dig_ok u
  · rcases List.mem_append.1 hc with hc|hc
    · exact dec_ok n (u/10) (by omega) c hc
    · rw[List.mem_singleton]at hc
      rw[hc];exact dig_ok u
theorem mark_ok (n:Nat): ∀c∈mark n,okB c=true:=by
 intro c hc;simp only[mark,List.mem_cons,List.mem_append,List.mem_singleton]at hc;rcases hc with rfl|rfl|hc|rfl|hc
 · decide
 · decide
 · exact dec_ok (n+1) n (Nat.lt_succ_self n) c hc
 · decide
 · cases hc
theorem stem_ending (l:List UInt8):stem l++ending l=l:=List.take_append_drop _ _
theorem trim_sub (l:List UInt8) (c:UInt8): ∃r,l=Lib.trimRightB l c++r:=by
 refine⟨(l.reverse.takeWhile (· ==c)).reverse,?_⟩
 unfold Lib.trimRightB;have:=congrArg List.reverse (List.takeWhile_append_dropWhile (p:=(· ==c)) (l:=l.reverse))
 rw[List.reverse_append,List.reverse_reverse]at this;exact this.symm
theorem short_sub (l:List UInt8) (room:Int): ∃r,l=short l room++r:=by
 unfold short;split
 · exact⟨[],by simp⟩
 · obtain⟨r,hr⟩:=trim_sub (l.take room.toNat) 32
   refine⟨r++l.drop room.toNat,?_⟩
   rw[←List.append_assoc,←hr,List.take_append_drop]
theorem short_len {l:List UInt8} {room:Int} (h:short l room≠[]):((short l room).length:Int)≤room:=by
 unfold short at h⊢;split
 · assumption
 · rename_i h1
   rw[if_neg h1]at h;have h2:=len_trim (l.take room.toNat) 32;rw[List.length_take]at h2;have h3:(Lib.trimRightB (l.take room.toNat) 32).length≠0:=fun e=>h (List.length_eq_zero_iff.1 e)
   omega
theorem aside_name {m:List UInt8} (n:Nat) (hm:nameB m=true) (h:short (stem m) (20-(mark n).length-(ending m).length)≠[]):
    nameB (short (stem m) (20-(mark n).length-(ending m).length)++mark n++ending m)=true:=by
 have hl:=short_len h;obtain⟨r,hr⟩:=short_sub (stem m) (20-(mark n).length-(ending m).length)
 have hse:=stem_ending m;generalize short (stem m) (20-(mark n).length-(ending m).length)=S at*;have hall:m=S++(r++ending m):=by rw[←List.append_assoc,←hr,hse]
 rw[name_iff]at hm⊢;obtain⟨h1,h2,h3,h4,h5,h6,h7⟩:=hm
 have hmk:4≤(mark n).length∨True:=Or.inr trivial;refine⟨fun c hc=>?_,?_,?_,?_,?_,?_,?_⟩
 · rcases List.mem_append.1 hc with hc|hc
   · rcases List.mem_append.1 hc with hc|hc
     · exact h1 c (by rw[hall];exact List.mem_append_left _ hc)
     · exact mark_ok n c hc
   · exact h1 c (by rw[←hse];exact List.mem_append_right _ hc)
 · simp[mark];omega
 · simp only[List.length_append];omega
 · cases S with
   |nil=>exact absurd rfl h
   |cons a t=>
    rw[hall]at h4;simpa using h4
 · cases he:ending m with
   |nil=>simp[mark,List.getLast?_append,List.getLast?_cons]
   |cons a t=>
    rw[he]at hse;rw[←hse]at h5;rw[List.getLast?_append]at h5⊢;cases hq:(a::t).getLast? with
    |none=>simp at hq
    |some x=>rw[hq]at h5;simpa using h5
 · intro e
   have:(40:UInt8)∈S++mark n++ending m:=by simp[mark]
   rw[e]at this;simp at this
 · intro e
   have:(40:UInt8)∈S++mark n++ending m:=by simp[mark]
   rw[e]at this;simp at this
theorem asideT_chk {l:List UInt8} (n:Nat) (h:chk l=0) (hS:asideS l n≠[]):chk (asideT l n)=if big (asideT l n)=true then 2 else 0:=by
 apply chk_big
 obtain⟨h1,h2⟩:=names_parts (chk_names h)
 rw[asideT_eq];exact jn_names (aside_name n h1 hS) h2
theorem aside_ok {l:List UInt8} {n:Int} (h:asideE l n=0):chk l=0∧1≤n∧n≤99∧asideS l n.toNat≠[]∧chk (asideT l n.toNat)=0:=by
 unfold asideE at h;split at h
 · rename_i hz
   split at h
   · simp at h
   · rename_i hn
     split at h
     · simp at h
     · rename_i hs
       exact⟨hz,by omega,by omega,hs,h⟩
 · rename_i hz;exact absurd h hz
theorem aside_par {l:List UInt8} {n:Int} (h:asideE l n=0):par (asideT l n.toNat)=par l:=by
 obtain⟨hz,_,_,hs,_⟩:=aside_ok h
 have h47:=no_slash (aside_name n.toNat (names_parts (chk_names hz)).1 hs);rw[asideT_eq];unfold jn;split
 · rename_i e;rw[e];exact par_none h47
 · exact par_cut _ h47
end Go.Proofs.YtlllcifehellpaaGreatDoor.Pp
namespace Go.Proofs.YtlllcifehellpaaGreatDoor
open Go.RowKit Go.Maps Go.WideMaps

theorem ownsRow_shape {w:World} {base:Nat} {e:TypeId} {size:Nat} {v:Value} {n:Nat} {xs:List Value} (h:w.ownsRow base e size v n xs): ∃a cap,v= .slice a n cap:=by
 obtain⟨_,h2⟩:=h
 rcases h2 with⟨rfl,hz⟩|⟨g,cap,cur,rfl,_⟩
 · exact⟨none,0,by rw[hz]⟩
 · exact⟨_,cap,rfl⟩
namespace Mg
/-- The first path aside that is free, from a number on. -/
def asdF (M T N:List En) (p:List UInt8):Nat→Nat→Option (List UInt8)
 |0,_=>none
 |f+1,n=>if¬Pp.asideE p n=0 then none else if free M T N (Pp.asideT p n)=true then some (Pp.asideT p n)else asdF M T N p f (n+1)
def asd (M T N:List En) (p:List UInt8):Option (List UInt8):=asdF M T N p 99 1
theorem asdF_bad {M T N:List En} {p:List UInt8} {f n:Nat} (h: ¬Pp.asideE p n=0):asdF M T N p (f+1) n=none:=by rw[asdF,if_pos h]
theorem asdF_hit {M T N:List En} {p:List UInt8} {f n:Nat} (h:Pp.asideE p n=0) (h1:free M T N (Pp.asideT p n)=true):asdF M T N p (f+1) n=some (Pp.asideT p n):=by rw[asdF,if_neg (fun x=>x h),if_pos h1]
theorem asdF_miss {M T N:List En} {p:List UInt8} {f n:Nat} (h:Pp.asideE p n=0) (h1:free M T N (Pp.asideT p n)=false):asdF M T N p (f+1) n=asdF M T N p f (n+1):=by rw[asdF,if_neg (fun x=>x h),if_neg (by simp[h1])]
/-- A file at a path. -/
def file (q:List UInt8) (s:Spo):En:=⟨⟨q.toArray⟩,false,s.t,s.v⟩
def flatP (C:List (ByteArray×ByteArray)):List Value:=C.flatMap (fun c=>[.string c.1,.string c.2])
theorem flatP_snoc (C:List (ByteArray×ByteArray)) (c:ByteArray×ByteArray):flatP C++[.string c.1,.string c.2]=flatP (C++[c]):=by simp[flatP]
end Mg
/-- A joining that may be written: its box, its maps, and its copies. -/
structure JoinM (B c:Nat) (w:World) (j bm bt bn:Nat) (vc:Value) (M T N:List En) (C:List (ByteArray×ByteArray)):Prop where
 box:w.heap[j]?=some (.cells #[.map (some bm),.map (some bt),.map (some bn),vc] 99)
 mine: ∃n,n≤1000000∧w.ownsMap Tryz.prog 9 Sp.rd bm n (Sp.D M)
 theirs: ∃n,n≤1000000∧w.ownsMap Tryz.prog 9 Sp.rd bt n (Sp.D T)
 now: ∃n,n≤c∧w.ownsMap Tryz.prog 9 Sp.rd bn n (Sp.D N)
 row:w.ownsRow B 60 2 vc C.length (Mg.flatP C)
 ne1:bm≠bn
 ne2:bt≠bn
 lej:B≤j
 len:B≤bn
theorem JoinM.join {B c:Nat} {w:World} {j bm bt bn:Nat} {vc:Value} {M T N:List En} {C:List (ByteArray×ByteArray)} (h:JoinM B c w j bm bt bn vc M T N C) (hc:c≤1000000):Join w j bm bt bn vc M T N:=by
 obtain⟨n,hn,hm⟩:=h.now
 exact⟨⟨_,h.box⟩,h.mine,h.theirs,⟨n,by omega,hm⟩⟩
theorem JoinM.below {B c:Nat} {w w':World} {j bm bt bn:Nat} {vc:Value} {M T N:List En} {C:List (ByteArray×ByteArray)} (h:JoinM B c w j bm bt bn vc M T N C) (hw:Below w.heap.size w w'):JoinM B c w' j bm bt bn vc M T N C:=by
 obtain⟨h1,⟨n1,l1,m1⟩,⟨n2,l2,m2⟩,⟨n3,l3,m3⟩,h5,h6,h7,h8,h9⟩:=h
 exact⟨(hw.block j (heap_lt h1)).trans h1,⟨n1,l1,omap_below m1 hw m1.lt⟩,⟨n2,l2,omap_below m2 hw m2.lt⟩,⟨n3,l3,omap_below m3 hw m3.lt⟩,h5.kept9 hw,h6,h7,h8,h9⟩
theorem own_ne_map {w:World} {B:Nat} {e:TypeId} {size:Nat} {v:Value} {n:Nat} {xs:List Value} {b:Nat} {k:Nat} {D:DataW Unit} (h:w.ownsRow B e size v n xs) (hm:w.ownsMap Tryz.prog 9 Sp.rd b k D):v.ownBlock≠some b:=by
 obtain⟨es,clock,hb,_⟩:=hm
 obtain⟨_,h2⟩:=h
 rcases h2 with⟨rfl,_⟩|⟨g,cap,cur,rfl,_,hg,_⟩
 · simp[Value.ownBlock]
 · intro e
   simp[Value.ownBlock]at e
   subst e;rw[hb]at hg;cases hg
theorem box_ne_map {w:World} {j b k:Nat} {vs:Array Value} {T:TypeId} {fz:Nat×Nat} {D:DataW Unit} (h:w.heap[j]?=some (.cells vs T fz)) (hm:w.ownsMap Tryz.prog 9 Sp.rd b k D):j≠b:=by
 obtain⟨es,clock,hb,_⟩:=hm
 rintro rfl;rw[hb]at h;cases h
theorem joining_copy:(99:TypeId)≠60:=by decide
theorem box_ne_row {w:World} {j B n:Nat} {vs:Array Value} {fz:Nat×Nat} {v:Value} {xs:List Value} (h:w.heap[j]?=some (.cells vs 99 fz)) (ho:w.ownsRow B 60 2 v n xs):v.ownBlock≠some j:=by
 obtain⟨_,h2⟩:=ho
 rcases h2 with⟨rfl,_⟩|⟨g,cap,cur,rfl,_,hg,_⟩
 · simp[Value.ownBlock]
 · intro e
   simp[Value.ownBlock]at e
   subst e;rw[hg]at h;injection h with h
   injection h with _ h
   exact joining_copy h.symm
/-- Behind a spot that was laid into what is there now. -/
theorem JoinM.upd {B c:Nat} {w w':World} {j bm bt bn:Nat} {vc:Value} {M T N N':List En} {C:List (ByteArray×ByteArray)} (h:JoinM B c w j bm bt bn vc M T N C) (hw:w.grownBy w' (some bn)) (hn: ∃n,n≤c+1∧w'.ownsMap Tryz.prog 9 Sp.rd bn n (Sp.D N')):JoinM B (c+1) w' j bm bt bn vc M T N' C:=by
 obtain⟨h1,⟨n1,l1,m1⟩,⟨n2,l2,m2⟩,⟨n3,l3,m3⟩,h5,h6,h7,h8,h9⟩:=h
 have hj:=box_ne_map h1 m3;refine⟨(hw.block j (heap_lt h1) (fun e=>hj (by injection e))).trans h1,⟨n1,l1,m1.kept hw (fun e=>h6 (by injection e))⟩,⟨n2,l2,m2.kept hw (fun e=>h7 (by injection e))⟩,hn,h5.kept (row:=some bn) hw (Or.inr (own_ne_map h5 m3)),h6,h7,h8,h9⟩
/-- Behind one more copy. -/
theorem JoinM.app {B c:Nat} {w w':World} {j bm bt bn:Nat} {vc v':Value} {M T N:List En} {C C':List (ByteArray×ByteArray)} (h:JoinM B c w j bm bt bn vc M T N C) (hw:w.grownBy w' vc.ownBlock) (ho:w'.ownsRow B 60 2 v' C'.length (Mg.flatP C')):JoinM B c (w'.setCell ⟨j,3,none⟩ v') j bm bt bn v' M T N C':=by
 obtain⟨h1,⟨n1,l1,m1⟩,⟨n2,l2,m2⟩,⟨n3,l3,m3⟩,h5,h6,h7,h8,h9⟩:=h
 have k1:w'.heap[j]?=some (.cells #[.map (some bm),.map (some bt),.map (some bn),vc] 99):=(hw.block j (heap_lt h1) (fun e=>box_ne_row h1 h5 e.symm)).trans h1;have p1:=m1.kept hw (fun e=>own_ne_map h5 m1 e.symm);have p2:=m2.kept hw (fun e=>own_ne_map h5 m2 e.symm);have p3:=m3.kept hw (fun e=>own_ne_map h5 m3 e.symm);have hs:=nb_set w' j 3 v';refine⟨?_,⟨n1,l1,p1.kept hs (fun e=>box_ne_map k1 p1 (by injection e with e;exact e.symm))⟩,⟨n2,l2,p2.kept hs (fun e=>box_ne_map k1 p2 (by injection e with e;exact e.symm))⟩,⟨n3,l3,p3.kept hs (fun e=>box_ne_map k1 p3 (by injection e with e;exact e.symm))⟩,ho.kept (row:=some j) hs (Or.inr (box_ne_row k1 ho)),h6,h7,h8,h9⟩
 unfold World.setCell;simp only[Array.getElem?_modify,k1,if_true,Option.map_some];rfl
/-- All but what is there now, joinings and copies lies as it did. -/
def Fr (bn:Nat) (w w':World):Prop:= ∀k o,w.heap[k]?=some o→k≠bn→(∀cs fz,o≠ .cells cs 99 fz)→(∀cs fz,o≠ .cells cs 60 fz)→w'.heap[k]?=some o
theorem Fr.of_below {bn:Nat} {w w':World} (h:Below w.heap.size w w'):Fr bn w w':=fun k o hk _ _ _=>(h.block k (heap_lt hk)).trans hk
theorem Fr.trans {bn:Nat} {a b c:World} (h1:Fr bn a b) (h2:Fr bn b c):Fr bn a c:=fun k o hk hn hj hc=>h2 k o (h1 k o hk hn hj hc) hn hj hc
theorem Fr.upd {bn:Nat} {w w':World} (h:w.grownBy w' (some bn)):Fr bn w w':=fun k o hk hn _ _=>(h.block k (heap_lt hk) (fun e=>hn (by injection e))).trans hk
theorem Fr.app {bn B n:Nat} {w w':World} {v:Value} {xs:List Value} (ho:w.ownsRow B 60 2 v n xs) (h:w.grownBy w' v.ownBlock):Fr bn w w':=fun k o hk _ _ hc=>(h.block k (heap_lt hk) (fun e=>by
 obtain⟨_,h2⟩:=ho
 rcases h2 with⟨rfl,_⟩|⟨g,cap,cur,rfl,_,hg,_⟩
 · simp[Value.ownBlock]at e
 · simp[Value.ownBlock]at e
   subst e;rw[hg]at hk;injection hk with hk
   exact hc _ _ hk.symm)).trans hk
theorem Fr.set {bn j i:Nat} {w:World} {cs:Array Value} {fz:Nat×Nat} (hj:w.heap[j]?=some (.cells cs 99 fz)) (u:Value):Fr bn w (w.setCell ⟨j,i,none⟩ u):=fun k o hk _ hn _=>((nb_set w j i u).block k (heap_lt hk) (fun e=>by
 injection e with e
 subst e;rw[hj]at hk;injection hk with hk
 exact hn _ _ hk.symm)).trans hk
theorem Tryz.infoCp:(Tryz.prog.info? 60).map (fun i=>(i.zero,i.size,i.bytes))=some (some (.agg #[.string ⟨#[]⟩,.string ⟨#[]⟩]),2,32):=by kernel_rfl
set_option maxRecDepth 100000 in
set_option maxHeartbeats 4000000 in
theorem goAside_any {B c:Nat} {w:World} {j bm bt bn:Nat} {vc:Value} {M T N:List En} {C:List (ByteArray×ByteArray)} (h:JoinM B c w j bm bt bn vc M T N C) (hM:Sp.Apart M) (hT:Sp.Apart T) (hN:Sp.Rise N) (hc:c≤100000) (hC:C.length≤100000) (p:ByteArray) (hp:p.size≤1000) (s:Spo) (hs:s.w=2):
    Calls Tryz.prog 76 #[.pointer (some ⟨j,0,none⟩),.string p,s.val] w fun e w'=>
     (Mg.asd M T N p.data.toList=none→e= .returned (.int .i64 2)∧Below w.heap.size w w')∧
     (∀q,Mg.asd M T N p.data.toList=some q→e= .returned (.int .i64 0)∧Below B w w'∧Fr bn w w'∧ ∃vc',JoinM B (c+1) w' j bm bt bn vc' M T (Sp.put1 (Mg.file q s) N) (C++[(p,⟨q.toArray⟩)])):=by
 obtain⟨i0,hi0,hz0,hz1,hz2⟩:=info_parts Tryz.infoCp
 have HJ:=hid h;have HM:=hid hM;have HT:=hid hT;have HN:=hid hN;have hjl:=heap_lt h.box;have HJB:=hid (show B≤w.heap.size from by have:=h.lej;omega);obtain⟨sw,st,sv⟩:=s
 simp only at hs;subst hs;simp only[Spo.val];clear h hM hT hN;obtain⟨wz,hwz⟩: ∃wz,wz=w.alloc (.cells #[.int .i64 2,.string st,.int .i64 sv] 114):=⟨_,rfl⟩
 have hbz:Below w.heap.size w wz:=by rw[hwz];exact(Below.refl _ _).alloc (Nat.le_refl _) _
 have HX:=hid (show Cs wz w.heap.size [.int .i64 2,.string st,.int .i64 sv]from by rw[hwz];exact Cs.new _ [.int .i64 2,.string st,.int .i64 sv] _);go_enter Tryz.func76,Tryz.ntmps76
 go_wp2_with fail;rw[←hwz];clear hwz;go_loopw [7] (fun i wr=> ∃k:Nat,1≤k∧k≤100∧i= .int .i64 k∧Hid (Mg.asd M T N p.data.toList=Mg.asdF M T N p.data.toList (100-k) k)∧Below wz.heap.size wz wr) (fun i _=>100-(intOf i).toNat)
 case atStart=>exact⟨1,Nat.le_refl _,by decide,rfl,(rfl:Mg.asd M T N p.data.toList=Mg.asdF M T N p.data.toList (100-1) 1),Below.refl _ _⟩
 case round=>
  obtain⟨k,hk1,hk2,rfl,HA,hbo⟩:=hrel
  have hbel:=below_tr hbz hbo;by_cases hk:k≤99
  · have hki:(k:Int)≤99:=by omega
    have e1:100-k=(99-k)+1:=by omega
    rw[e1]at HA;have HB:=hid (show¬Pp.asideE p.data.toList k=0→Mg.asd M T N p.data.toList=none from fun hh=>by rw[HA.out,Mg.asdF_bad hh]);have HH:=hid (show Pp.asideE p.data.toList k=0→Mg.free M T N (Pp.asideT p.data.toList k)=true→Mg.asd M T N p.data.toList=some (Pp.asideT p.data.toList k)from fun h1 h2=>by rw[HA.out,Mg.asdF_hit h1 h2]);have HMI:=hid (show Pp.asideE p.data.toList k=0→Mg.free M T N (Pp.asideT p.data.toList k)=false→Mg.asd M T N p.data.toList=Mg.asdF M T N p.data.toList (100-(k+1)) (k+1)from fun h1 h2=>by rw[HA.out,Mg.asdF_miss h1 h2];congr 1;omega);clear HA e1;go_wp2_with fail;refine(aside_any p k _ (by omega)).mono ?_
    rintro e w1 ⟨rfl,hb1⟩;rw[Int.toNat_natCast];have hb01:=below_tr hbel hb1;by_cases hE:Pp.asideE p.data.toList k=0
    · have HE:=hid hE
      have hok:=Pp.aside_ok hE;have hlen:=Pp.chk_len hok.2.2.2.2;rw[Int.toNat_natCast]at hlen
      have HQ:=hid (show(⟨(Pp.asideT p.data.toList k).toArray⟩:ByteArray).size≤maxLen from by
       show(Pp.asideT p.data.toList k).toArray.size≤_
       rw[List.size_toArray];unfold maxLen;omega)
      rw[hE,Pp.ifc_yes rfl];generalize hqq:Pp.asideT p.data.toList k=q at*;clear hE hok hlen;go_wp2_with fail;refine(isFree_any ((HJ.out.below hb01).join (by omega)) HM.out HT.out (Sp.apart_rise HN.out) ⟨q.toArray⟩ HQ.out).mono ?_
      rintro e w2 ⟨rfl,hb2⟩;have hb02:=below_tr hb01 hb2;have HJ2:=hid (HJ.out.below hb02);have HX2:=hid ((HX.out.below hbo).below (below_tr hb1 hb2));cases hfr:Mg.free M T N q with
      |true=>
       have HR:=hid (HH.out HE.out hfr);have hbx:Cs w2 j [.map (some bm),.map (some bt),.map (some bn),vc]:=⟨_,HJ2.out.box⟩
       have c2:=hbx.cell 2 rfl;have c3:=hbx.cell 3 rfl;have f3:=hbx.fr 3;have x0:=HX2.out.cell 0 rfl;have x1:=HX2.out.cell 1 rfl;have x2:=HX2.out.cell 2 rfl;obtain⟨n3,l3,m3⟩:=HJ2.out.now
       clear HB HH HMI hfr hbx;have hdr:Below w2.heap.size w2 w2.drew:=(Below.refl _ _).drew;obtain⟨w3,hrun3,hown3,hgr3⟩:=(omap_below m3 hdr m3.lt).update (string_keyed Tryz.underlying9) Tryz.underlying96 (by unfold maxLen;omega) (keyOf_string_mk Tryz.underlying9 HQ.out) (Sp.rd_mk 2 st sv)
       have HO3:=hid hown3;clear hown3;go_wp2_with fail;go_region
       have HJ3:=hid (show JoinM B (c+1) w3 j bm bt bn vc M T (Sp.put1 (Mg.file q ⟨2,st,sv⟩) N) C from(HJ2.out.below hdr).upd hgr3 ⟨n3+1,by omega,by
        rw[←Sp.D_put HN.out];exact HO3.out⟩)
       have hlt2:=(HJ2.out.len)
       have hsz3:=hgr3.size;have hb03:Below B w w3:=(((hb02.trans (hdr.mono hb02.size)).mono HJB.out)).grown hgr3 (by have:=hb02.size;have:=HJB.out;simp;omega) (fun k hk=>by injection hk with hk;omega);clear x0 x1 x2 c2 c3 f3 hrun3 HO3 HJ2 m3;have hbx:Cs w3 j [.map (some bm),.map (some bt),.map (some bn),vc]:=⟨_,HJ3.out.box⟩
       have c3:=hbx.cell 3 rfl;have f3:=hbx.fr 3;have hjl3:=hbx.lt;have HROW:=hid HJ3.out.row;obtain⟨va,vcap,rfl⟩:=ownsRow_shape HROW.out
       clear hbx;go_wp2_with (at_builtin;refine wpList_append_own _ rfl _ _ 32 rfl B 60 i0 (.agg #[.string ⟨#[]⟩,.string ⟨#[]⟩]) 2 32 Tryz.underlying32 hi0 hz0 hz1 hz2 rfl (by decide) _ _ _ rfl (HROW.out.alloc _) ⟨w3.heap.size,0,none⟩ 1 1 [.string p,.string ⟨q.toArray⟩] rfl rfl ?qc1 ?qc2 ?qc3 ?qc4 ?qc5 ?_)
       case qc1=>intro i u hi;match i,hi with|0,hi=>simp at hi;subst hi;simp[Addr.add]|1,hi=>simp at hi;subst hi;simp[Addr.add]|i+2,hi=>simp at hi
       case qc2=>intro u hu;simp at hu;rcases hu with rfl|rfl<;>rfl
       case qc3=>unfold maxLen;omega
       case qc4=>omega
       case qc5=>have:=HJ3.out.lej;simp;omega
       intro v4 w4 ho4 hgr4 hnn4;have hal:Below w3.heap.size w3 (w3.alloc (.cells #[.string p,.string ⟨q.toArray⟩] 60)):=(Below.refl _ _).alloc (Nat.le_refl _) _;have hJ4:=HJ3.out.below hal;have hbx4h:=(hgr4.block j (heap_lt hJ4.box) (fun e=>box_ne_row hJ4.box hJ4.row e.symm)).trans hJ4.box;have hbx4:Cs w4 j [.map (some bm),.map (some bt),.map (some bn),.slice va C.length vcap]:=⟨_,hbx4h⟩
       have d3:=hbx4.cell 3 rfl;have e3:=hbx4.fr 3
       have ho5:w4.ownsRow B 60 2 v4 (C++[((p,⟨q.toArray⟩):ByteArray×ByteArray)]).length (Mg.flatP (C++[((p,⟨q.toArray⟩):ByteArray×ByteArray)])):=by
        rw[←Mg.flatP_snoc,List.length_append];exact ho4
       have HJ5:=hid (hJ4.app hgr4 ho5);have HFR:=hid (show Fr bn w (w4.setCell ⟨j,3,none⟩ v4)from(((Fr.of_below (below_tr hb02 hdr)).trans (Fr.upd hgr3)).trans (Fr.of_below hal)).trans ((Fr.app hJ4.row hgr4).trans (Fr.set (hbx4h) v4)));have hszB:B≤w3.heap.size:=Nat.le_trans HJB.out hb03.size;have hb05:Below B w (w4.setCell ⟨j,3,none⟩ v4):=(((hb03.trans (hal.mono hszB)).grown hgr4 (Nat.le_trans HJB.out (Nat.le_trans hb03.size hal.size)) (fun k hk=>(hJ4.row.lt k hk).1)).setCell (p:=⟨j,3,none⟩) hJ4.lej _)
       obtain⟨v4a,v4c,rfl⟩:=ownsRow_shape ho4
       clear ho4 ho5 hgr4 hJ4 hbx4 hbx4h HJ3 HROW;go_wp2_with fail;go_ret;refine⟨?_,?_⟩
       · intro hn
         rw[HR.out]at hn;cases hn
       · intro q' hq'
         rw[HR.out]at hq';injection hq' with hq'
         rw[←hq'];exact⟨rfl,hb05,HFR.out,_,HJ5.out⟩
      |false=>
       have HR:=hid (HMI.out HE.out hfr);have hbo2:=below_tr hbo (below_tr hb1 hb2);clear HB HH HMI hfr;go_wp2_with fail;go_roundw
       case rel=>exact⟨k+1,by omega,by omega,by simp,HR,hbo2⟩
       case measure=>simp[intOf];omega
    · have HR:=hid (HB.out hE)
      have hz:(Pp.asideE p.data.toList k==0)=false:=by simpa using hE
      clear HB HH HMI;go_wp2_with fail;go_ret;exact⟨(fun _=>⟨rfl,hb01⟩),(fun q hq=>by rw[HR.out]at hq;cases hq)⟩
  · obtain rfl:k=100:=by omega
    have HR:=hid (show Mg.asd M T N p.data.toList=none from by rw[HA.out];rfl);go_wp2_with fail;go_ret;exact⟨(fun _=>⟨rfl,hbel⟩),(fun q hq=>by rw[HR.out]at hq;cases hq)⟩
end Go.Proofs.YtlllcifehellpaaGreatDoor
namespace Go.Proofs.YtlllcifehellpaaGreatDoor
open Go.RowKit Go.Maps Go.WideMaps

namespace Mg
def fold (p:ByteArray):En:=⟨p,true,⟨#[]⟩,0⟩
/-- A folder is made at a path; a file that is there goes aside. -/
def mkf (M T N:List En) (C:List (ByteArray×ByteArray)) (p:ByteArray):Option (List En×List (ByteArray×ByteArray)):=
 if(st N p.data.toList).w=2 then match asd M T N p.data.toList with
  |none=>none
  |some q=>some (Sp.put1 (fold p) (Sp.put1 (file q (st N p.data.toList)) N),C++[(p,⟨q.toArray⟩)])
 else some (Sp.put1 (fold p) N,C)
theorem mkf_no {M T N:List En} {C:List (ByteArray×ByteArray)} {p:ByteArray} (h:(st N p.data.toList).w=2) (h1:asd M T N p.data.toList=none):mkf M T N C p=none:=by rw[mkf,if_pos h,h1]
theorem mkf_some {M T N:List En} {C:List (ByteArray×ByteArray)} {p:ByteArray} {q:List UInt8} (h:(st N p.data.toList).w=2) (h1:asd M T N p.data.toList=some q):mkf M T N C p=some (Sp.put1 (fold p) (Sp.put1 (file q (st N p.data.toList)) N),C++[(p,⟨q.toArray⟩)]):=by rw[mkf,if_pos h,h1]
theorem mkf_else {M T N:List En} {C:List (ByteArray×ByteArray)} {p:ByteArray} (h: ¬(st N p.data.toList).w=2):mkf M T N C p=some (Sp.put1 (fold p) N,C):=by rw[mkf,if_neg h]
end Mg

set_option maxRecDepth 100000 in
set_option maxHeartbeats 4000000 in
theorem makeFolder_any {B c:Nat} {w:World} {j bm bt bn:Nat} {vc:Value} {M T N:List En} {C:List (ByteArray×ByteArray)} (h:JoinM B c w j bm bt bn vc M T N C) (hM:Sp.Apart M) (hT:Sp.Apart T) (hN:Sp.Rise N) (hc:c≤90000) (hC:C.length≤90000) (p:ByteArray) (hp:p.size≤1000):
    Calls Tryz.prog 100 #[.pointer (some ⟨j,0,none⟩),.string p] w fun e w'=>
     (Mg.mkf M T N C p=none→e= .returned (.int .i64 2)∧Below B w w')∧
     (∀N' C',Mg.mkf M T N C p=some (N',C')→e= .returned (.int .i64 0)∧Below B w w'∧Fr bn w w'∧ ∃vc',JoinM B (c+2) w' j bm bt bn vc' M T N' C'):=by
 have HJ:=hid h;have HM:=hid hM;have HT:=hid hT;have HN:=hid hN;have hjl:=heap_lt h.box;have HJB:=hid (show B≤w.heap.size from by have:=h.lej;omega);have HP:=hid (show p.size≤maxLen from by unfold maxLen;omega);obtain⟨n3,l3,m3⟩:=h.now
 have k3:=spotSt m3 (Sp.apart_rise hN) p HP.out;have hbx:Cs w j [.map (some bm),.map (some bt),.map (some bn),vc]:=⟨_,h.box⟩
 have c2:=hbx.cell 2 rfl;have HK1:Hid ((Mg.st N p.data.toList).w=2→Mg.asd M T N p.data.toList=none→Mg.mkf M T N C p=none):=Mg.mkf_no;have HK2:=hid (show∀q,(Mg.st N p.data.toList).w=2→Mg.asd M T N p.data.toList=some q→Mg.mkf M T N C p=some (Sp.put1 (Mg.fold p) (Sp.put1 (Mg.file q (Mg.st N p.data.toList)) N),C++[(p,⟨q.toArray⟩)])from fun q h1 h2=>Mg.mkf_some h1 h2);have HK3:Hid (¬(Mg.st N p.data.toList).w=2→Mg.mkf M T N C p=some (Sp.put1 (Mg.fold p) N,C)):=Mg.mkf_else;generalize Mg.st N p.data.toList=x at*;obtain⟨xw,xt,xv⟩:=x
 simp only at k3 HK1 HK2 HK3;clear h hM hT hN hbx m3;obtain⟨wz,hwz⟩: ∃wz,wz=w.alloc (.cells #[.int .i64 xw,.string xt,.int .i64 xv] 114):=⟨_,rfl⟩
 have hbz:Below w.heap.size w wz:=by rw[hwz];exact(Below.refl _ _).alloc (Nat.le_refl _) _
 have HJZ:=hid (HJ.out.below hbz);by_cases h2:xw=2
 · subst h2
   go_enter Tryz.func100,Tryz.ntmps100
   go_wp2_with fail;rw[←hwz];clear hwz k3 c2;refine(goAside_any HJZ.out HM.out HT.out HN.out (by omega) (by omega) p hp ⟨2,xt,xv⟩ rfl).mono ?_
   intro e w1 he;cases ha:Mg.asd M T N p.data.toList with
   |none=>
    obtain⟨rfl,hb1⟩:=he.1 ha
    have HR:=hid (HK1.out trivial ha);have hb01:Below B w w1:=(below_tr hbz hb1).mono HJB.out;clear he ha;go_wp2_with fail;go_ret;refine⟨fun _=>⟨rfl,hb01⟩,?_⟩
    intro N' C' hh;rw[HR.out]at hh;cases hh
   |some q=>
    obtain⟨rfl,hb1,hf1,vc',hJ1⟩:=he.2 q ha
    have HR:=hid (HK2.out q trivial ha);have hb01:Below B w w1:=(hbz.mono HJB.out).trans hb1;have HJ1:=hid hJ1;have HN1:=hid (Sp.put1_rise (e:=Mg.file q ⟨2,xt,xv⟩) HN.out);clear he ha;have hbx:Cs w1 j [.map (some bm),.map (some bt),.map (some bn),vc']:=⟨_,hJ1.box⟩
    have c2:=hbx.cell 2 rfl;obtain⟨n4,l4,m4⟩:=hJ1.now
    obtain⟨w3,hrun3,hown3,hgr3⟩:=m4.update (string_keyed Tryz.underlying9) Tryz.underlying96 (by unfold maxLen;omega) (keyOf_string_mk Tryz.underlying9 HP.out) (Sp.rd_mk 1 ⟨#[]⟩ 0)
    have HO3:=hid hown3
    have HJ3:=hid (show JoinM B (c+2) w3 j bm bt bn vc' M T (Sp.put1 (Mg.fold p) (Sp.put1 (Mg.file q ⟨2,xt,xv⟩) N)) (C++[(p,⟨q.toArray⟩)])from HJ1.out.upd hgr3 ⟨n4+1,by omega,by
     rw[←Sp.D_put HN1.out];exact HO3.out⟩)
    have hlen:=HJ1.out.len;have HFR:=hid (show Fr bn w w3 from((Fr.of_below hbz).trans hf1).trans (Fr.upd hgr3));have hszB:B≤w1.heap.size:=Nat.le_trans HJB.out hb01.size;have hb03:Below B w w3:=hb01.grown hgr3 hszB (fun k hk=>by injection hk with hk;omega);clear hown3 hJ1 hbx m4;go_wp2_with fail;go_ret;refine⟨?_,?_⟩
    · intro hh
      rw[HR.out]at hh;cases hh
    · intro N' C' hh
      rw[HR.out]at hh;injection hh with hh
      injection hh with e1 e2
      rw[←e1,←e2];exact⟨rfl,hb03,HFR.out,_,HJ3.out⟩
 · have HR:=hid (HK3.out h2)
   have h2':(xw==2)=false:=by simpa using h2
   have HJZ2:=HJZ.out;have hbx:Cs wz j [.map (some bm),.map (some bt),.map (some bn),vc]:=⟨_,HJZ2.box⟩
   have d2:=hbx.cell 2 rfl;obtain⟨n4,l4,m4⟩:=HJZ2.now
   obtain⟨w3,hrun3,hown3,hgr3⟩:=m4.update (string_keyed Tryz.underlying9) Tryz.underlying96 (by unfold maxLen;omega) (keyOf_string_mk Tryz.underlying9 HP.out) (Sp.rd_mk 1 ⟨#[]⟩ 0)
   have HO3:=hid hown3
   have HJ3:=hid (show JoinM B (c+1) w3 j bm bt bn vc M T (Sp.put1 (Mg.fold p) N) C from HJZ.out.upd hgr3 ⟨n4+1,by omega,by
    rw[←Sp.D_put HN.out];exact HO3.out⟩)
   have hlen:=HJZ.out.len;have HFR:=hid (show Fr bn w w3 from(Fr.of_below hbz).trans (Fr.upd hgr3));have hb03:Below B w w3:=(hbz.mono HJB.out).grown hgr3 (Nat.le_trans HJB.out hbz.size) (fun k hk=>by injection hk with hk;omega);clear hown3 hbx m4 HJZ2 HK1 HK2 HK3;rw[hwz]at hrun3 d2;go_enter Tryz.func100,Tryz.ntmps100
   go_wp2_with fail;go_ret;refine⟨?_,?_⟩
   · intro hh
     rw[HR.out]at hh;cases hh
   · intro N' C' hh
     rw[HR.out]at hh;injection hh with hh
     injection hh with e1 e2
     rw[←e1,←e2];obtain⟨nx,lx,mx⟩:=HJ3.out.now
     exact⟨rfl,hb03,HFR.out,_,⟨HJ3.out.box,HJ3.out.mine,HJ3.out.theirs,⟨nx,by omega,mx⟩,HJ3.out.row,HJ3.out.ne1,HJ3.out.ne2,HJ3.out.lej,HJ3.out.len⟩⟩
end Go.Proofs.YtlllcifehellpaaGreatDoor
namespace Go.Proofs.YtlllcifehellpaaGreatDoor
open Go.RowKit Go.Maps Go.WideMaps

namespace Mg
abbrev CC:=List (ByteArray×ByteArray)
/-- The folders of a path, up to one of its bytes. -/
def pres (p:ByteArray) (k:Nat):List ByteArray:=(List.range k).filterMap (fun i=>if p.data.toList[i]?=some 47 then some (p.extract 0 i)else none)
theorem pres_hit {p:ByteArray} {k:Nat} (h:p.data.toList[k]?=some 47):pres p (k+1)=pres p k++[p.extract 0 k]:=by
 have h':p.data[k]?=some 47:=by simpa using h
 rw[pres,pres,List.range_succ,List.filterMap_append];simp[List.filterMap_cons,h']
theorem pres_miss {p:ByteArray} {k:Nat} (h: ¬p.data.toList[k]?=some 47):pres p (k+1)=pres p k:=by
 have h': ¬p.data[k]?=some 47:=by simpa using h
 rw[pres,pres,List.range_succ,List.filterMap_append];simp[List.filterMap_cons,h']
theorem pres_len (p:ByteArray): ∀k,(pres p k).length≤k:=fun k=>by
 have:=List.length_filterMap_le (fun i=>if p.data.toList[i]?=some 47 then some (p.extract 0 i)else none) (List.range k)
 rw[List.length_range]at this;exact this
/-- Folders that are made, one after the other. -/
def mks (M T:List En):List ByteArray→List En×CC→Option (List En×CC)
 |[],s=>some s
 |q::r,s=>(mkf M T s.1 s.2 q).bind (mks M T r)
theorem mks_app (M T:List En): ∀(a b:List ByteArray) (s:List En×CC),mks M T (a++b) s=(mks M T a s).bind (mks M T b)
 |[],b,s=>rfl
 |q::r,b,s=>by
  rw[List.cons_append,mks,mks,Option.bind_assoc];congr 1
  funext t
  exact mks_app M T r b t
theorem mks_none {M T:List En} {a b:List ByteArray} {q:ByteArray} {s:List En×CC} {N:List En} {C:CC} (h:mks M T a s=some (N,C)) (h1:mkf M T N C q=none):mks M T (a++[q]++b) s=none:=by
 rw[mks_app,mks_app,h];simp[mks,h1]
theorem mks_some {M T:List En} {a:List ByteArray} {q:ByteArray} {s t:List En×CC} {N:List En} {C:CC} (h:mks M T a s=some (N,C)) (h1:mkf M T N C q=some t):mks M T (a++[q]) s=some t:=by
 rw[mks_app,h];simp[mks,h1]
theorem mkf_rise {M T N:List En} {C:CC} {p:ByteArray} {N':List En} {C':CC} (h:mkf M T N C p=some (N',C')) (hN:Sp.Rise N):Sp.Rise N'∧C'.length≤C.length+1:=by
 by_cases h2:(st N p.data.toList).w=2
 · cases ha:asd M T N p.data.toList with
   |none=>rw[mkf_no h2 ha]at h;cases h
   |some q=>
    rw[mkf_some h2 ha]at h;injection h with h
    injection h with e1 e2
    rw[←e1,←e2];exact⟨Sp.put1_rise (Sp.put1_rise hN),by simp⟩
 · rw[mkf_else h2]at h
   injection h with h
   injection h with e1 e2
   rw[←e1,←e2];exact⟨Sp.put1_rise hN,by simp⟩
/-- All folders of all paths. -/
def allP (N:List En) (k:Nat):List ByteArray:=(N.take k).flatMap (fun e=>pres e.path e.path.size)
theorem allP_succ {N:List En} {k:Nat} (hk:k<N.length):allP N (k+1)=allP N k++pres N[k].path N[k].path.size:=by
 rw[allP,allP,List.take_succ_eq_append_getElem hk,List.flatMap_append];simp
theorem allP_len {N:List En} (h: ∀e∈N,e.path.size≤80): ∀k,(allP N k).length≤80*k
 |0=>by simp[allP]
 |k+1=>by
  by_cases hk:k<N.length
  · rw[allP_succ hk,List.length_append]
    have:=allP_len h k
    have h1:=pres_len N[k].path N[k].path.size;have h2:=h _ (List.getElem_mem hk);omega
  · have:allP N (k+1)=allP N k:=by rw[allP,allP,List.take_of_length_le (by omega),List.take_of_length_le (by omega)]
    rw[this];have:=allP_len h k
    omega
theorem pres_more (p:ByteArray) {k:Nat} (h:k<p.size): ∃r,pres p p.size=pres p (k+1)++r:=by
 have: ∀d k,∃r,pres p (k+d)=pres p k++r:=by
  intro d;induction d with
  |zero=>intro k;exact⟨[],by simp⟩
  |succ d ih=>
   intro k;obtain⟨r,hr⟩:=ih k
   by_cases h:p.data.toList[k+d]?=some 47
   · exact⟨r++[p.extract 0 (k+d)],by rw[←Nat.add_assoc,pres_hit h,hr,List.append_assoc]⟩
   · exact⟨r,by rw[←Nat.add_assoc,pres_miss h,hr]⟩
 obtain⟨r,hr⟩:=this (p.size-(k+1)) (k+1)
 rw[show k+1+(p.size-(k+1))=p.size by omega]at hr;exact⟨r,hr⟩
theorem allP_more (N:List En) {k:Nat} (h:k≤N.length): ∃r,allP N N.length=allP N k++r:=by
 refine⟨(N.drop k).flatMap (fun e=>pres e.path e.path.size),?_⟩
 rw[allP,allP,←List.flatMap_append,List.take_length,List.take_append_drop]
end Mg
end Go.Proofs.YtlllcifehellpaaGreatDoor
namespace Go.Proofs.YtlllcifehellpaaGreatDoor
open Go.RowKit Go.Maps Go.WideMaps


theorem row_some {w:World} {B n k:Nat} {e:TypeId} {size:Nat} {a:Option Addr} {cap:Nat} {xs:List Value} (h:w.ownsRow B e size (.slice a n cap) k xs) (hn:0<n): ∃g,a=some ⟨g,0,none⟩:=by
 obtain⟨_,h2⟩:=h
 rcases h2 with⟨h2,_⟩|⟨g,cap',cur,h2,_⟩
 · injection h2 with _ h3 _
   omega
 · injection h2 with h3 _ _
   exact⟨g,h3⟩
theorem text_types:(9:TypeId)≠99∧(9:TypeId)≠60:=by decide
theorem Fr.row {bn B n k:Nat} {w w':World} {v:Value} {xs:List Value} {D:DataW Unit} (hf:Fr bn w w') (hm:w.ownsMap Tryz.prog 9 Sp.rd bn k D) (h:w.ownsRow B 9 1 v n xs):w'.ownsRow B 9 1 v n xs:=by
 have hne:=own_ne_map h hm;obtain⟨h1,h2⟩:=h
 refine⟨h1,?_⟩
 rcases h2 with h2|⟨g,cap,cur,rfl,hg,hh,r⟩
 · exact .inl h2
 · refine .inr ⟨g,cap,cur,rfl,hg,hf g _ hh (fun e=>hne (by rw[e];rfl)) ?_ ?_,r⟩
   · intro cs fz e
     injection e with _ e
     exact text_types.1 e
   · intro cs fz e
     injection e with _ e
     exact text_types.2 e
/-- The paths of a map, in a row of one's own. -/
theorem paths_own {b n:Nat} {w:World} {L:List En} (h:w.ownsMap Tryz.prog 9 Sp.rd b n (Sp.D L)) (hr:Sp.Rise L) (hn:L.length≤1000):
    Calls Tryz.prog 75 #[.map (some b)] w fun e w'=> ∃v,e= .returned v∧w'.ownsRow w.heap.size 9 1 v L.length (L.map (fun e=>Value.string e.path))∧Below w.heap.size w w':=by
 have hsz:=Sp.D_size (Sp.apart_rise hr);refine(Tryz.paths_any b n _ Sp.rd w h (by rw[hsz];unfold maxLen;omega) (by rw[hsz];omega)).mono fun e w' ⟨v,ss,he,hp,hrow,hnil,hb⟩=>?_
 have hl:ss.length=L.length:=by
  have h1:=hp.length_eq;have h2:=(Sp.D_keys (Sp.apart_rise hr)).length_eq;rw[List.length_map]at h2;omega
 rw[Sp.D_sorted hr hp,hl]at hrow;refine⟨v,he,?_,hb⟩
 rw[List.map_map]at hrow;exact hrow
set_option maxRecDepth 100000 in
set_option maxHeartbeats 4000000 in
theorem makeParents_any {B c:Nat} {w:World} {j bm bt bn:Nat} {vc:Value} {M T N:List En} {C:Mg.CC} (h:JoinM B c w j bm bt bn vc M T N C) (hM:Sp.Apart M) (hT:Sp.Apart T) (hN:Sp.Rise N) (hc:c≤1000) (hC:C.length≤1000) (hn:N.length≤400) (hp: ∀e∈N,e.path.size≤80):
    Calls Tryz.prog 77 #[.pointer (some ⟨j,0,none⟩)] w fun e w'=>
     (Mg.mks M T (Mg.allP N N.length) (N,C)=none→e= .returned (.int .i64 2)∧Below B w w')∧
     (∀N' C',Mg.mks M T (Mg.allP N N.length) (N,C)=some (N',C')→e= .returned (.int .i64 0)∧Below B w w'∧Fr bn w w'∧ ∃vc' c',c'≤100000∧JoinM B c' w' j bm bt bn vc' M T N' C'):=by
 have HJ:=hid h;have HM:=hid hM;have HT:=hid hT;have HN:=hid hN;have HPS:=hid hp;have HJB:=hid (show B≤w.heap.size from by have:=h.lej;have:=heap_lt h.box;omega);obtain⟨n3,l3,m3⟩:=h.now
 have hbx:Cs w j [.map (some bm),.map (some bt),.map (some bn),vc]:=⟨_,h.box⟩
 have c2:=hbx.cell 2 rfl;clear h hM hT hp hbx;go_enter Tryz.func77,Tryz.ntmps77
 go_wp2_with fail;refine(paths_own m3 hN (by omega)).mono ?_
 rintro e w1 ⟨v,rfl,hl,hb1⟩;have HL:=hid hl;have HJ1:=hid (HJ.out.below hb1);have hb01:Below B w w1:=hb1.mono HJB.out;have HF1:=hid (show Fr bn w w1 from Fr.of_below hb1);obtain⟨a,cap,rfl⟩:=ownsRow_shape hl
 clear m3 hl c2;go_wp2_with fail;go_loopw [13] (fun x wr=> ∃(k:Nat) (N':List En) (C':Mg.CC) (vc':Value) (c':Nat),k≤N.length∧x= .int .i64 k∧c'≤c+160*k∧C'.length≤C.length+80*k∧Hid (Mg.mks M T (Mg.allP N k) (N,C)=some (N',C'))∧Hid (JoinM B c' wr j bm bt bn vc' M T N' C')∧Hid (Sp.Rise N')∧Hid (wr.ownsRow w.heap.size 9 1 (.slice a N.length cap) N.length (N.map (fun e=>Value.string e.path)))∧Hid (Fr bn w wr)∧Below B w wr) (fun x _=>N.length-(intOf x).toNat)
 case atStart=>exact⟨0,N,C,vc,c,Nat.zero_le _,rfl,by omega,by omega,(rfl:Mg.mks M T (Mg.allP N 0) (N,C)=some (N,C)),HJ1,HN,HL,HF1,hb01⟩
 case round=>
  obtain⟨k,N',C',vc',c',hk,rfl,hcc,hCC,HK,HJK,HNK,HLK,HFK,hbel⟩:=hrel
  by_cases hlt:k<N.length
  · obtain⟨g,rfl⟩:=row_some HLK.out (by omega)
    have hcell:=HLK.out.cellAt k (by rw[Nat.mul_one];omega);rw[List.getElem?_map,List.getElem?_eq_getElem hlt,Option.map_some]at hcell;have hlt':(k:Int)<N.length:=by omega
    have hps:N[k].path.size≤80:=HPS.out _ (List.getElem_mem hlt);have HAS:Hid (Mg.allP N (k+1)=Mg.allP N k++Mg.pres N[k].path N[k].path.size):=Mg.allP_succ hlt;generalize N[k].path=p at*;go_wp2_with fail;go_loopw [19] (fun x wi=> ∃(i:Nat) (N2:List En) (C2:Mg.CC) (vc2:Value) (c2:Nat),i≤p.size∧x= .int .i64 i∧c2≤c'+2*i∧C2.length≤C'.length+i∧Hid (Mg.mks M T (Mg.allP N k++Mg.pres p i) (N,C)=some (N2,C2))∧Hid (JoinM B c2 wi j bm bt bn vc2 M T N2 C2)∧Hid (Sp.Rise N2)∧Hid (wi.ownsRow w.heap.size 9 1 (.slice (some ⟨g,0,none⟩) N.length cap) N.length (N.map (fun e=>Value.string e.path)))∧Hid (Fr bn w wi)∧Below B w wi) (fun x _=>p.size-(intOf x).toNat)
    case atStart=>exact⟨0,N',C',vc',c',Nat.zero_le _,rfl,by omega,by omega,(by rw[show Mg.pres p 0=[]from rfl,List.append_nil];exact HK.out:Mg.mks M T (Mg.allP N k++Mg.pres p 0) (N,C)=some (N',C')),HJK,HNK,HLK,HFK,hbel⟩
    case round=>
     obtain⟨i,N2,C2,vc2,c2,hi,rfl,hc2,hC2,HK2,HJ2,HN2,HL2,HF2,hbi⟩:=hrel
     by_cases hil:i<p.size
     · have hil':(i:Int)<p.size:=by omega
       have hget:p.data.toList[i]?=some p[i]:=by
        rw[Array.getElem?_toList];exact Array.getElem?_eq_getElem hil
       by_cases h47:p[i]=47
       · have HPH:Hid (Mg.pres p (i+1)=Mg.pres p i++[p.extract 0 i]):=Mg.pres_hit (by rw[hget,h47])
         have HPT:Hid (∃r,Mg.pres p p.size=Mg.pres p (i+1)++r):=Mg.pres_more p hil;have hbv:((p[i].toNat:Int) !=47)=false:=by rw[h47];rfl
         have hex:(p.extract 0 i).size≤1000:=by rw[ByteArray.size_extract];omega
         clear hget h47;go_wp2_with fail;refine(makeFolder_any HJ2.out HM.out HT.out HN2.out (by omega) (by omega) (p.extract 0 i) hex).mono ?_
         intro e w2 he;cases hm:Mg.mkf M T N2 C2 (p.extract 0 i)with
         |none=>
          obtain⟨rfl,hb2⟩:=he.1 hm
          have HR:=hid (show Mg.mks M T (Mg.allP N N.length) (N,C)=none from by
           obtain⟨r,hr⟩:=HPT.out
           obtain⟨r2,hr2⟩:=Mg.allP_more N (Nat.succ_le_of_lt hlt)
           rw[hr2,HAS.out,hr,HPH.out];have:=Mg.mks_none (b:=r++r2) HK2.out hm
           simpa[List.append_assoc]using this)
          have hbw:=hbi.trans hb2;clear he hm;go_wp2_with fail;go_ret;refine⟨fun _=>⟨rfl,hbw⟩,?_⟩
          intro N9 C9 hh;rw[HR.out]at hh;cases hh
         |some x=>
          obtain⟨N3,C3⟩:=x
          obtain⟨rfl,hb2,hf2,vc3,hJ3⟩:=he.2 N3 C3 hm
          obtain⟨hr3,hl3⟩:=Mg.mkf_rise hm HN2.out
          have HK3:=hid (show Mg.mks M T (Mg.allP N k++Mg.pres p (i+1)) (N,C)=some (N3,C3)from by
           rw[HPH.out,←List.append_assoc];exact Mg.mks_some HK2.out hm)
          obtain⟨n9,_,m9⟩:=HJ2.out.now
          have HL3:=hid (hf2.row m9 HL2.out);have HF3:=hid (show Fr bn w w2 from HF2.out.trans hf2);have HN3:=hid hr3;have HJ3:=hid hJ3;have hbw:=hbi.trans hb2;clear he hm hf2 hJ3 hr3 m9;go_wp2_with fail;go_roundw
          case rel=>exact⟨i+1,N3,C3,vc3,_,by omega,rfl,by omega,by omega,HK3,HJ3,HN3,HL3,HF3,hbw⟩
          case measure=>
           simp[intOf]
           omega
       · have HPM:=hid (show Mg.mks M T (Mg.allP N k++Mg.pres p (i+1)) (N,C)=some (N2,C2)from by
          rw[Mg.pres_miss (by rw[hget];exact fun e=>h47 (by injection e))];exact HK2.out)
         have hbv:((p[i].toNat:Int) !=47)=true:=by
          rw[bne_iff_ne];intro e;exact h47 (UInt8.toNat_inj.1 (by show p[i].toNat=47;omega))
         clear hget h47;go_wp2_with fail;go_roundw
         case rel=>exact⟨i+1,N2,C2,vc2,c2,by omega,rfl,by omega,by omega,HPM,HJ2,HN2,HL2,HF2,hbi⟩
         case measure=>
          simp[intOf]
          omega
     · have hie:i=p.size:=by omega
       subst hie;have HK3:=hid (show Mg.mks M T (Mg.allP N (k+1)) (N,C)=some (N2,C2)from by rw[HAS.out];exact HK2.out);go_wp2_with fail;go_roundw
       case rel=>exact⟨k+1,N2,C2,vc2,c2,by omega,rfl,by omega,by omega,HK3,HJ2,HN2,HL2,HF2,hbi⟩
       case measure=>
        simp[intOf]
        omega
  · have hke:k=N.length:=by omega
    subst hke;go_wp2_with fail;go_ret;refine⟨?_,?_⟩
    · intro hh
      rw[HK.out]at hh;cases hh
    · intro N9 C9 hh
      rw[HK.out]at hh;injection hh with hh
      injection hh with e1 e2
      rw[←e1,←e2];exact⟨rfl,hbel,HFK.out,vc',c',by omega,HJK.out⟩
end Go.Proofs.YtlllcifehellpaaGreatDoor
namespace Go.Proofs.YtlllcifehellpaaGreatDoor
open Go.RowKit Go.Maps

namespace Mg
theorem ba_ext {a b:ByteArray} (h:a.data.toList=b.data.toList):a=b:=by
 cases a;cases b
 simp only at h;congr 1
 exact Array.toList_inj.1 h
def spo (e:En):Spo:=⟨Sp.wh e,Sp.tx e,e.ver⟩
theorem st_some {L:List En} {p:List UInt8} {e:En} (h:Sp.at_ L p=some e):st L p=spo e:=by rw[st,Sp.wAt,Sp.tAt,Sp.vAt,h];rfl
theorem st_none {L:List En} {p:List UInt8} (h:Sp.at_ L p=none):st L p=zero:=by rw[st,Sp.wAt,Sp.tAt,Sp.vAt,h];rfl
theorem wh_12 (e:En):Sp.wh e=1∨Sp.wh e=2:=by
 rw[Sp.wh];split
 · exact Or.inl rfl
 · exact Or.inr rfl
theorem st_w0 {L:List En} {p:List UInt8}:(st L p).w=0↔Sp.at_ L p=none:=by
 cases h:Sp.at_ L p with
 |none=>rw[st_none h];exact⟨fun _=>rfl,fun _=>rfl⟩
 |some e=>
  rw[st_some h];constructor
  · intro h0
    have:=wh_12 e
    have h0:Sp.wh e=0:=h0;omega
  · intro h0;cases h0
/-- What may be at a path. -/
def Ok (s:Spo):Prop:=s=zero∨(s.w=1∧s.t=⟨#[]⟩)∨s.w=2
theorem ok_spo (e:En):Ok (spo e):=by
 rcases wh_12 e with h|h
 · refine Or.inr (Or.inl ⟨h,?_⟩)
   show Sp.tx e=_
   rw[Sp.tx];rw[Sp.wh]at h;split at h
   · rename_i hf;rw[if_pos hf]
   · simp at h
 · exact Or.inr (Or.inr h)
theorem ok_st (L:List En) (p:List UInt8):Ok (st L p):=by
 cases h:Sp.at_ L p with
 |none=>rw[st_none h];exact Or.inl rfl
 |some e=>rw[st_some h];exact ok_spo e
theorem Ok.w {s:Spo} (h:Ok s):s.w=0∨s.w=1∨s.w=2:=by
 rcases h with h|h|h
 · rw[h];exact Or.inl rfl
 · exact Or.inr (Or.inl h.1)
 · exact Or.inr (Or.inr h)
theorem Ok.zero {s:Spo} (h:Ok s) (h0:s.w=0):s=Mg.zero:=by
 rcases h with h|h|h
 · exact h
 · omega
 · omega
theorem Ok.fold {s:Spo} (h:Ok s) (h0:s.w=1):s.t=⟨#[]⟩:=by
 rcases h with h|h|h
 · rw[h]at h0;cases h0
 · exact h.2
 · omega
theorem st_put1 {e:En} {L:List En} (h:Sp.Rise L) (p:List UInt8):st (Sp.put1 e L) p=if e.path.data.toList=p then spo e else st L p:=by
 have ha:=Sp.at_put1 (e:=e) h p;by_cases hp:e.path.data.toList=p
 · rw[if_pos hp]at ha⊢
   exact st_some ha
 · rw[if_neg hp]at ha⊢
   rw[st,st,Sp.wAt,Sp.tAt,Sp.vAt,Sp.wAt,Sp.tAt,Sp.vAt,ha]
theorem spo_fold (p:ByteArray):spo (fold p)=⟨1,⟨#[]⟩,0⟩:=rfl
theorem lk_iff {a b:Spo}:lk a b=true↔a.w=b.w∧a.t=b.t:=by
 rw[lk,Bool.and_eq_true,beq_iff_eq,beq_iff_eq,Lib.toList_data,Lib.toList_data];exact⟨fun⟨h1,h2⟩=>⟨h1,ba_ext h2⟩,fun⟨h1,h2⟩=>⟨h1,by rw[h2]⟩⟩
theorem lk_refl (a:Spo):lk a a=true:=lk_iff.2 ⟨rfl,rfl⟩
theorem lk_symm {a b:Spo} (h:lk a b=true):lk b a=true:=lk_iff.2 ⟨(lk_iff.1 h).1.symm,(lk_iff.1 h).2.symm⟩
theorem lk_trans {a b c:Spo} (h:lk a b=true) (h1:lk b c=true):lk a c=true:=lk_iff.2 ⟨(lk_iff.1 h).1.trans (lk_iff.1 h1).1,(lk_iff.1 h).2.trans (lk_iff.1 h1).2⟩
theorem lk_fold {a b:Spo} (ha:Ok a) (hb:Ok b) (h:a.w=b.w) (h2:a.w≠2):lk a b=true:=by
 refine lk_iff.2 ⟨h,?_⟩
 rcases ha.w with h0|h0|h0
 · rw[ha.zero h0,hb.zero (by omega)]
 · rw[ha.fold h0,hb.fold (by omega)]
 · omega
theorem stays_mem (b m t:Spo):stays b m t=m∨stays b m t=t:=by
 rw[stays];split
 · exact Or.inr rfl
 · split
   · exact Or.inl rfl
   · split
     · exact Or.inl rfl
     · exact Or.inr rfl
theorem goes_mem (b m t:Spo):goes b m t=zero∨goes b m t=m∨goes b m t=t:=by
 rw[goes];split
 · exact Or.inl rfl
 · split
   · exact Or.inl rfl
   · split
     · exact Or.inr (Or.inr rfl)
     · exact Or.inr (Or.inl rfl)
theorem goes_ok {b m t:Spo} (hm:Ok m) (ht:Ok t):Ok (goes b m t):=by
 rcases goes_mem b m t with h|h|h
 · rw[h];exact Or.inl rfl
 · rw[h];exact hm
 · rw[h];exact ht
theorem stays_ok {b m t:Spo} (hm:Ok m) (ht:Ok t):Ok (stays b m t):=by
 rcases stays_mem b m t with h|h
 · rw[h];exact hm
 · rw[h];exact ht
theorem goes_file {b m t:Spo} (hm:Ok m) (ht:Ok t) (h:(goes b m t).w≠0):(goes b m t).w=2:=by
 have hz:zero.w=0:=rfl;rw[goes]at h⊢;split at h
 · exact absurd hz h
 · rename_i h1
   rw[if_neg h1];split at h
   · exact absurd hz h
   · rename_i h2
     rw[if_neg h2];split at h
     · rename_i h3
       rw[if_pos h3];rcases ht.w with h0|h0|h0
       · exact absurd h0 h
       · rcases h3 with h3|h3
         · exact absurd (Or.inl (lk_fold hm ht (by omega) (by omega))) h1
         · omega
       · exact h0
     · rename_i h3
       rw[if_neg h3];rcases hm.w with h0|h0|h0
       · exact absurd h0 h
       · exact absurd (Or.inl h0) h3
       · exact h0
/-- A list with all spots of another one laid into it. -/
def over (L M:List En):List En:=M.foldl (fun X e=>Sp.put1 e X) L
theorem over_snoc (L M:List En) (e:En):over L (M++[e])=Sp.put1 e (over L M):=by simp[over]
theorem over_rise {L:List En} (h:Sp.Rise L) (M:List En):Sp.Rise (over L M):=by
 refine snoc_ind (P:=fun M=>Sp.Rise (over L M)) h ?_ M
 intro M e ih;rw[over_snoc];exact Sp.put1_rise ih
theorem at_over {L:List En} (h:Sp.Rise L) (M:List En) (hM:Sp.Apart M) (p:List UInt8):Sp.at_ (over L M) p=match Sp.at_ M p with|some e=>some e|none=>Sp.at_ L p:=by
 revert hM
 refine snoc_ind (P:=fun M=>Sp.Apart M→Sp.at_ (over L M) p=match Sp.at_ M p with|some e=>some e|none=>Sp.at_ L p) (fun _=>rfl) ?_ M
 intro M e ih hM;obtain⟨h1,h2⟩:=hM.snoc
 rw[over_snoc,Sp.at_put1 (over_rise h M),ih h1];by_cases hp:e.path.data.toList=p
 · rw[if_pos hp]
   have:Sp.at_ (M++[e]) p=some e:=(Sp.at_iff hM).2 ⟨by simp,hp⟩
   rw[this]
 · rw[if_neg hp]
   have:Sp.at_ (M++[e]) p=Sp.at_ M p:=by
    rw[Sp.at_,Sp.at_,List.find?_append]
    have:[e].find? (Pp.atB p)=none:=by
     rw[List.find?_eq_none];intro x hx hb;rw[List.mem_singleton]at hx;exact hp (hx▸Sp.atB_iff.1 hb)
    rw[this,Option.or_none]
   rw[this]
def uni (B M T:List En):List En:=over (over B M) T
theorem uni_rise {B:List En} (h:Sp.Rise B) (M T:List En):Sp.Rise (uni B M T):=over_rise (over_rise h M) T
theorem uni_none {B M T:List En} (h:Sp.Rise B) (hM:Sp.Apart M) (hT:Sp.Apart T) {p:List UInt8} (hp:Sp.at_ (uni B M T) p=none):Sp.at_ B p=none∧Sp.at_ M p=none∧Sp.at_ T p=none:=by
 rw[uni,at_over (over_rise h M) T hT,at_over h M hM]at hp;cases h1:Sp.at_ T p with
 |some e=>rw[h1]at hp;cases hp
 |none=>
  rw[h1]at hp;cases h2:Sp.at_ M p with
  |some e=>rw[h2]at hp;cases hp
  |none=>rw[h2]at hp;exact⟨hp,rfl,rfl⟩
theorem put1_len (e:En) (L:List En):(Sp.put1 e L).length≤L.length+1:=by
 rw[Sp.put1,(Pp.ins_perm e _).length_eq,List.length_cons];have:=List.length_filter_le (fun x=> !Pp.atB e.path.data.toList x) L
 omega
theorem over_len (L M:List En):(over L M).length≤L.length+M.length:=by
 refine snoc_ind (P:=fun M=>(over L M).length≤L.length+M.length) (by simp[over]) ?_ M
 intro M e ih;rw[over_snoc];have:=put1_len e (over L M)
 simp only[List.length_append,List.length_singleton];omega
theorem over_mem {L M:List En} {x:En} (h:x∈over L M):x∈L∨x∈M:=by
 revert h
 refine snoc_ind (P:=fun M=>x∈over L M→x∈L∨x∈M) (fun h=>Or.inl h) ?_ M
 intro M e ih h;rw[over_snoc]at h;rcases Sp.mem_put1.1 h with rfl|⟨h,_⟩
 · exact Or.inr (by simp)
 · rcases ih h with h|h
   · exact Or.inl h
   · exact Or.inr (by simp[h])
theorem uni_mem {B M T:List En} {x:En} (h:x∈uni B M T):x∈B∨x∈M∨x∈T:=by
 rcases over_mem h with h|h
 · rcases over_mem h with h|h
   · exact Or.inl h
   · exact Or.inr (Or.inl h)
 · exact Or.inr (Or.inr h)
theorem good_len {L:List En} (h:Pp.Good L) {x:En} (hx:x∈L):x.path.size≤80:=by
 have:=Pp.chk_len (Pp.entE_path (h.ents x hx))
 rw[Array.length_toList]at this;exact this
theorem uni_len80 {B M T:List En} (gB:Pp.Good B) (gM:Pp.Good M) (gT:Pp.Good T) {x:En} (h:x∈uni B M T):x.path.size≤80:=by
 rcases uni_mem h with h|h|h
 · exact good_len gB h
 · exact good_len gM h
 · exact good_len gT h
theorem uni_len (B M T:List En):(uni B M T).length≤B.length+M.length+T.length:=by
 have h1:=over_len (over B M) T;have h2:=over_len B M;rw[uni];omega
def enOf (p:ByteArray) (s:Spo):En:=⟨p,s.w==1,s.t,s.v⟩
theorem spo_enOf {p:ByteArray} {s:Spo} (h:Ok s) (h0:s.w≠0):spo (enOf p s)=s:=by
 obtain⟨sw,st,sv⟩:=s
 rcases h.w with h1|h1|h1
 · exact absurd h1 h0
 · have h2:=h.fold h1
   simp only at h1 h2;subst h1 h2;rfl
 · simp only at h1
   subst h1;rfl
def set1 (f:List UInt8→Spo) (e:En):Option En:=if(f e.path.data.toList).w=0 then none else some (enOf e.path (f e.path.data.toList))
/-- What is settled at the paths of a list. -/
def sets (f:List UInt8→Spo) (U:List En):List En:=U.filterMap (set1 f)
theorem set1_path {f:List UInt8→Spo} {e x:En} (h:set1 f e=some x):x.path=e.path∧x=enOf e.path (f e.path.data.toList)∧(f e.path.data.toList).w≠0:=by
 rw[set1]at h;split at h
 · cases h
 · rename_i h0
   injection h with h
   subst h;exact⟨rfl,rfl,h0⟩
theorem mem_sets {f:List UInt8→Spo} {U:List En} {x:En}:x∈sets f U↔ ∃e∈U,set1 f e=some x:=by rw[sets,List.mem_filterMap]
theorem sets_rise {f:List UInt8→Spo} {U:List En} (h:Sp.Rise U):Sp.Rise (sets f U):=by
 refine List.Pairwise.filterMap (set1 f) ?_ h
 intro a a' ha b hb b' hb';rw[Pp.lt,(set1_path hb).1,(set1_path hb').1];exact ha
theorem sets_len (f:List UInt8→Spo) (U:List En):(sets f U).length≤U.length:=List.length_filterMap_le _ _
theorem st_sets {f:List UInt8→Spo} {U:List En} (h:Sp.Rise U) (hok: ∀p,Ok (f p)) (hn: ∀p,Sp.at_ U p=none→f p=zero) (p:List UInt8):st (sets f U) p=f p:=by
 have hr:=sets_rise (f:=f) h;by_cases h0:(f p).w=0
 · rw[(hok p).zero h0]
   refine st_none (Sp.at_none.2 ?_)
   intro x hx hxp;obtain⟨e,he,hs⟩:=mem_sets.1 hx
   obtain⟨h1,_,h3⟩:=set1_path hs
   rw[h1]at hxp;rw[hxp]at h3;exact h3 h0
 · cases hu:Sp.at_ U p with
   |none=>rw[hn p hu]at h0;exact absurd rfl h0
   |some e=>
    obtain⟨h1,h2⟩:=(Sp.at_iff (Sp.apart_rise h)).1 hu
    have hs:set1 f e=some (enOf e.path (f p)):=by rw[set1,h2,if_neg h0]
    have:Sp.at_ (sets f U) p=some (enOf e.path (f p)):=(Sp.at_iff (Sp.apart_rise hr)).2 ⟨mem_sets.2 ⟨e,h1,hs⟩,h2⟩
    rw[st_some this,spo_enOf (hok p) h0]
def fS (B M T:List En) (p:List UInt8):Spo:=stays (st B p) (st M p) (st T p)
def fG (B M T:List En) (p:List UInt8):Spo:=goes (st B p) (st M p) (st T p)
theorem fS_ok (B M T:List En) (p:List UInt8):Ok (fS B M T p):=stays_ok (ok_st _ _) (ok_st _ _)
theorem fG_ok (B M T:List En) (p:List UInt8):Ok (fG B M T p):=goes_ok (ok_st _ _) (ok_st _ _)
theorem fS_none {B M T:List En} (h:Sp.Rise B) (hM:Sp.Apart M) (hT:Sp.Apart T) (p:List UInt8) (hp:Sp.at_ (uni B M T) p=none):fS B M T p=zero:=by
 obtain⟨h1,h2,h3⟩:=uni_none h hM hT hp
 rw[fS,st_none h1,st_none h2,st_none h3];rcases stays_mem zero zero zero with h|h<;>exact h
theorem fG_none {B M T:List En} (h:Sp.Rise B) (hM:Sp.Apart M) (hT:Sp.Apart T) (p:List UInt8) (hp:Sp.at_ (uni B M T) p=none):fG B M T p=zero:=by
 obtain⟨h1,h2,h3⟩:=uni_none h hM hT hp
 rw[fG,st_none h1,st_none h2,st_none h3];rcases goes_mem zero zero zero with h|h|h<;>exact h
def now0 (B M T:List En):List En:=sets (fS B M T) (uni B M T)
def asi0 (B M T:List En):List En:=sets (fG B M T) (uni B M T)
theorem st_now0 {B M T:List En} (h:Sp.Rise B) (hM:Sp.Apart M) (hT:Sp.Apart T) (p:List UInt8):st (now0 B M T) p=fS B M T p:=st_sets (uni_rise h M T) (fS_ok B M T) (fS_none h hM hT) p
theorem st_asi0 {B M T:List En} (h:Sp.Rise B) (hM:Sp.Apart M) (hT:Sp.Apart T) (p:List UInt8):st (asi0 B M T) p=fG B M T p:=st_sets (uni_rise h M T) (fG_ok B M T) (fG_none h hM hT) p
/-- Files that go aside, one after the other. -/
def asds (M T:List En):List En→List En×CC→Option (List En×CC)
 |[],s=>some s
 |a::r,s=>(asd M T s.1 a.path.data.toList).bind (fun q=>asds M T r (Sp.put1 (file q (spo a)) s.1,s.2++[(a.path,⟨q.toArray⟩)]))
theorem asds_app (M T:List En): ∀(a b:List En) (s:List En×CC),asds M T (a++b) s=(asds M T a s).bind (asds M T b)
 |[],b,s=>rfl
 |x::r,b,s=>by
  rw[List.cons_append,asds,asds,Option.bind_assoc];congr 1
  funext t
  exact asds_app M T r b _
theorem asds_none {M T:List En} {a b:List En} {x:En} {s:List En×CC} {N:List En} {C:CC} (h:asds M T a s=some (N,C)) (h1:asd M T N x.path.data.toList=none):asds M T (a++[x]++b) s=none:=by
 rw[asds_app,asds_app,h];simp[asds,h1]
theorem asds_some {M T:List En} {a:List En} {x:En} {s:List En×CC} {N:List En} {C:CC} {q:List UInt8} (h:asds M T a s=some (N,C)) (h1:asd M T N x.path.data.toList=some q):asds M T (a++[x]) s=some (Sp.put1 (file q (spo x)) N,C++[(x.path,⟨q.toArray⟩)]):=by
 rw[asds_app,h];simp[asds,h1]
def run (B M T:List En):Option (List En×CC):=(asds M T (asi0 B M T) (now0 B M T,[])).bind (fun s=>mks M T (allP s.1 s.1.length) s)
def out1 (M T N:List En) (e:En):En:=⟨e.path,Sp.wh e==1,Sp.tx e,ver M T N e.path.data.toList⟩
def outs (M T N:List En):List En:=N.map (out1 M T N)
def mrg (B M T:List En):Option (List En×CC):=(run B M T).bind (fun s=>if 60<s.1.length then none else some (outs M T s.1,s.2))
end Mg
end Go.Proofs.YtlllcifehellpaaGreatDoor
