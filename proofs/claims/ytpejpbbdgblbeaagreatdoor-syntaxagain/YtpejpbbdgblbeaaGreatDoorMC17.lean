import Derived.Test.YtpejpbbdgblbeaaGreatDoorMC16
import Derived.Test.YtpejpbbdgblbeaaGreatDoorMC18
import Derived.Test.YtpejpbbdgblbeaaGreatDoorMC19
import Derived.Deep.RegionWith
import Derived.Deep.DeepCutAuto
import Derived.Deep.CutRange
import Derived.Test.YtpejpbbdgblbeaaGreatDoorSStatement
namespace Go.Proofs.YtpejpbbdgblbeaaGreatDoor
open Go.RowKit Go.Shelf
set_option maxHeartbeats 16000000
set_option maxRecDepth 100000
theorem za1 (r g o cap:Nat) (t:Tk) (ts:List Tk) (w:World) (h:zg r g o cap (t::ts) w) (hk:t.k=2) (hne:ts≠[]) :
  Calls Tryz.prog 180 #[.pointer (some ⟨r,0,none⟩)] w (zJ r g w (.ok (.mk 1 [] t.n [] t.line,ts))):=by
 have hr:=h.lt.1;have H:=h.lt.2;have G:=h.alloc Zz;have Y:=yh r g o cap t ts _ G;obtain ⟨w2,y⟩:∃w2,w2=((w.alloc Zz).alloc (ZK t)).alloc (.cells #[.int .i64 2,.string (zb t.s),.int .i64 t.n,.int .i64 t.line,.int .i64 t.at0] 66):=⟨_,rfl⟩;have N:zg r g o cap (t::ts) w2:=by rw [y];exact (G.alloc _).alloc _
 have U:zd r w w2:=by rw [y];exact (((zd.refl r w).alloc _).alloc _).alloc _
 have J:w2.heap[w.heap.size]?=some Zz:=by
  rw [y,Below.heap_alloc _ _ _ (by simp;omega),Below.heap_alloc _ _ _ (by simp)]
  exact World.alloc_heap_new _ _
 have O:w2.heap[w.heap.size+1+1]?=some (.cells #[.int .i64 2,.string (zb t.s),.int .i64 t.n,.int .i64 t.line,.int .i64 t.at0] 66):=by
  have V:=World.alloc_heap_new ((w.alloc Zz).alloc (ZK t)) (.cells #[.int .i64 2,.string (zb t.s),.int .i64 t.n,.int .i64 t.line,.int .i64 t.at0] 66);rw [←y,show ((w.alloc Zz).alloc (ZK t)).heap.size=w.heap.size+1+1 by simp] at V
  exact V
 have I:w.heap.size+1+1<w2.heap.size:=(Array.getElem?_eq_some_iff.1 O).1;have D:Hid (w2=((w.alloc Zz).alloc (ZK t)).alloc (.cells #[.int .i64 2,.string (zb t.s),.int .i64 t.n,.int .i64 t.line,.int .i64 t.at0] 66)):=y;clear h G y;have Q:=Vb r g o cap t ts w2 N hne
 go_enter Tryz.func180,Tryz.ntmps180
 go_wp2_with fail
 refine Y.mono ?_;clear Y;rintro e w1 ⟨rfl,rfl⟩;simp only [uA];go_wp2_with fail
 rw [←D.out];refine Q.mono ?_;clear Q D;rintro e w3 ⟨rfl,z⟩;have T:zd r w w3:=by rw [z];exact U.setCell 0 _
 have A:zd r w2 w3:=by rw [z];exact (zd.refl r w2).setCell 0 _
 have R:zg r g (o+5) (cap-1) ts w3:=by rw [z];exact N.next
 have L:=(A.block _ (Array.getElem?_eq_some_iff.1 J).1 (by omega)).trans J
 have W:=(A.block _ I (by omega)).trans O
 obtain ⟨c0,c1,c2,c3,c4,-⟩:=zU W;obtain ⟨q0,q1,q2,q3,q4,qf⟩:=zU L;obtain ⟨Z,z1,z2,z3,z4⟩:=zX L (.int .i64 1) (.string ⟨#[]⟩) (.int .i64 t.n) (.slice none 0 0) (.int .i64 t.line)
 have HP:Hid (zJ r g w (.ok (.mk 1 [] t.n [] t.line,ts)) (.returned (.agg #[.int .i64 1,(.string ⟨#[]⟩),(.int .i64 t.n),.slice none 0 0,.int .i64 t.line])) (set5 w3 w.heap.size (.int .i64 1) (.string ⟨#[]⟩) (.int .i64 t.n) (.slice none 0 0) (.int .i64 t.line))) :=
  zJ.of_set5 (B:=w.heap.size+1) 1 [] t.n t.line T (Nat.le_refl _) hr H (.inl ⟨rfl,rfl⟩) (Nat.lt_succ_self _) R
 clear T A R L W J O N U z;go_wp2
 exact bodyPost_ret (v:=.agg #[.int .i64 1,(.string ⟨#[]⟩),(.int .i64 t.n),.slice none 0 0,.int .i64 t.line]) (by simp [results,Tryz.results180,go_sem,Z,z1,z2,z3,z4]) rfl HP.out
theorem za2 (r g o cap:Nat) (t:Tk) (ts:List Tk) (w:World) (h:zg r g o cap (t::ts) w) (hk:t.k=3) (hne:ts≠[]) :
  Calls Tryz.prog 180 #[.pointer (some ⟨r,0,none⟩)] w (zJ r g w (.ok (.mk 3 t.s 0 [] t.line,ts))):=by
 have hr:=h.lt.1;have H:=h.lt.2;have G:=h.alloc Zz;have Y:=yh r g o cap t ts _ G;obtain ⟨w2,y⟩:∃w2,w2=((w.alloc Zz).alloc (ZK t)).alloc (.cells #[.int .i64 3,.string (zb t.s),.int .i64 t.n,.int .i64 t.line,.int .i64 t.at0] 66):=⟨_,rfl⟩;have N:zg r g o cap (t::ts) w2:=by rw [y];exact (G.alloc _).alloc _
 have U:zd r w w2:=by rw [y];exact (((zd.refl r w).alloc _).alloc _).alloc _
 have J:w2.heap[w.heap.size]?=some Zz:=by
  rw [y,Below.heap_alloc _ _ _ (by simp;omega),Below.heap_alloc _ _ _ (by simp)]
  exact World.alloc_heap_new _ _
 have O:w2.heap[w.heap.size+1+1]?=some (.cells #[.int .i64 3,.string (zb t.s),.int .i64 t.n,.int .i64 t.line,.int .i64 t.at0] 66):=by
  have V:=World.alloc_heap_new ((w.alloc Zz).alloc (ZK t)) (.cells #[.int .i64 3,.string (zb t.s),.int .i64 t.n,.int .i64 t.line,.int .i64 t.at0] 66);rw [←y,show ((w.alloc Zz).alloc (ZK t)).heap.size=w.heap.size+1+1 by simp] at V
  exact V
 have I:w.heap.size+1+1<w2.heap.size:=(Array.getElem?_eq_some_iff.1 O).1;have D:Hid (w2=((w.alloc Zz).alloc (ZK t)).alloc (.cells #[.int .i64 3,.string (zb t.s),.int .i64 t.n,.int .i64 t.line,.int .i64 t.at0] 66)):=y;clear h G y;have Q:=Vb r g o cap t ts w2 N hne
 go_enter Tryz.func180,Tryz.ntmps180
 go_wp2_with fail
 refine Y.mono ?_;clear Y;rintro e w1 ⟨rfl,rfl⟩;simp only [uA];go_wp2_with fail
 rw [←D.out];refine Q.mono ?_;clear Q D;rintro e w3 ⟨rfl,z⟩;have T:zd r w w3:=by rw [z];exact U.setCell 0 _
 have A:zd r w2 w3:=by rw [z];exact (zd.refl r w2).setCell 0 _
 have R:zg r g (o+5) (cap-1) ts w3:=by rw [z];exact N.next
 have L:=(A.block _ (Array.getElem?_eq_some_iff.1 J).1 (by omega)).trans J
 have W:=(A.block _ I (by omega)).trans O
 obtain ⟨c0,c1,c2,c3,c4,-⟩:=zU W;obtain ⟨q0,q1,q2,q3,q4,qf⟩:=zU L;obtain ⟨Z,z1,z2,z3,z4⟩:=zX L (.int .i64 3) (.string (zb t.s)) (.int .i64 0) (.slice none 0 0) (.int .i64 t.line)
 have HP:Hid (zJ r g w (.ok (.mk 3 t.s 0 [] t.line,ts)) (.returned (.agg #[.int .i64 3,(.string (zb t.s)),(.int .i64 0),.slice none 0 0,.int .i64 t.line])) (set5 w3 w.heap.size (.int .i64 3) (.string (zb t.s)) (.int .i64 0) (.slice none 0 0) (.int .i64 t.line))) :=
  zJ.of_set5 (B:=w.heap.size+1) 3 t.s 0 t.line T (Nat.le_refl _) hr H (.inl ⟨rfl,rfl⟩) (Nat.lt_succ_self _) R
 clear T A R L W J O N U z;go_wp2
 exact bodyPost_ret (v:=.agg #[.int .i64 3,(.string (zb t.s)),(.int .i64 0),.slice none 0 0,.int .i64 t.line]) (by simp [results,Tryz.results180,go_sem,Z,z1,z2,z3,z4]) rfl HP.out
theorem QU (r g o cap:Nat) (t:Tk) (ts:List Tk) (w:World) (res:PR Ex) (h:zg r g o cap (t::ts) w) (hk:t.k=1)
  (hn:∀G,zg r g o cap (t::ts) G→zd r w G→Calls Tryz.prog 194 #[.pointer (some ⟨r,0,none⟩)] G (zJ r g G res)) :
  Calls Tryz.prog 180 #[.pointer (some ⟨r,0,none⟩)] w (zJ r g w res):=by
 have hr:=h.lt.1;have Q:=h.lt.2;have O:=h.alloc Zz;have ch:=yh r g o cap t ts _ O;obtain ⟨w2,y⟩:∃w2,w2=((w.alloc Zz).alloc (ZK t)).alloc (.cells #[.int .i64 1,.string (zb t.s),.int .i64 t.n,.int .i64 t.line,.int .i64 t.at0] 66):=⟨_,rfl⟩;have Y:zg r g o cap (t::ts) w2:=by rw [y];exact (O.alloc _).alloc _
 have U:zd r w w2:=by rw [y];exact (((zd.refl r w).alloc _).alloc _).alloc _
 have T:w2.heap[w.heap.size]?=some Zz:=by
  rw [y,Below.heap_alloc _ _ _ (by simp;omega),Below.heap_alloc _ _ _ (by simp)]
  exact World.alloc_heap_new _ _
 have n2:w2.heap[w.heap.size+1+1]?=some (.cells #[.int .i64 1,.string (zb t.s),.int .i64 t.n,.int .i64 t.line,.int .i64 t.at0] 66):=by
  have D:=World.alloc_heap_new ((w.alloc Zz).alloc (ZK t)) (.cells #[.int .i64 1,.string (zb t.s),.int .i64 t.n,.int .i64 t.line,.int .i64 t.at0] 66);rw [←y,show ((w.alloc Zz).alloc (ZK t)).heap.size=w.heap.size+1+1 by simp] at D
  exact D
 have aa:w.heap.size+1+1<w2.heap.size:=(Array.getElem?_eq_some_iff.1 n2).1;have H:Hid (w2=((w.alloc Zz).alloc (ZK t)).alloc (.cells #[.int .i64 1,.string (zb t.s),.int .i64 t.n,.int .i64 t.line,.int .i64 t.at0] 66)):=y;clear h O y;have W:=hn w2 Y U;clear hn
 go_enter Tryz.func180,Tryz.ntmps180
 go_wp2_with fail
 refine ch.mono ?_;clear ch;rintro e G ⟨rfl,rfl⟩;simp only [uA];go_wp2_with fail
 rw [←H.out];refine W.mono ?_;clear W H;rintro e w3 ⟨A,z⟩;have R:zd r w w3:=U.trans A;rcases res with a | ⟨x,us⟩
 ·obtain rfl:=z
  exact ⟨rfl,R,rfl⟩
 ·obtain ⟨v,o3,Z,rfl,D,I⟩:=z
  obtain ⟨a,b,c,N,J,L,l,rfl⟩:=D.agg;have V:=(A.block _ (Array.getElem?_eq_some_iff.1 T).1 (by omega)).trans T
  obtain ⟨q0,q1,q2,q3,q4,qf⟩:=zU V;obtain ⟨z0,z1,z2,z3,z4⟩:=zX V (.int .i64 a) (.string b) (.int .i64 c) (.slice N J L) (.int .i64 l)
  have HP:Hid (zJ r g w (.ok (x,us)) (.returned (.agg #[.int .i64 a,.string b,.int .i64 c,.slice N J L,.int .i64 l])) (set5 w3 w.heap.size (.int .i64 a) (.string b) (.int .i64 c) (.slice N J L) (.int .i64 l))) :=
   zJ.of_set5' R (Nat.le_refl _) hr Q D (by omega) I
  clear R A V T n2 Y U D I;go_wp2
  exact bodyPost_ret (v:=.agg #[.int .i64 a,.string b,.int .i64 c,.slice N J L,.int .i64 l]) (by simp [results,Tryz.results180,go_sem,z0,z1,z2,z3,z4]) rfl HP.out
structure ue (r g f:Nat):Prop where
 between:∀least w o cap ts res,zf f least ts=some res→zi ts→zg r g o cap ts w→ZC w→Calls Tryz.prog 86 #[.pointer (some ⟨r,0,none⟩),.int .i64 (least:Nat)] w (zJ r g w res)
 unary:∀w o cap ts res,Zg f ts=some res→zi ts→zg r g o cap ts w→ZC w→Calls Tryz.prog 125 #[.pointer (some ⟨r,0,none⟩)] w (zJ r g w res)
 single:∀w o cap ts res,zC f ts=some res→zi ts→zg r g o cap ts w→ZC w→Calls Tryz.prog 180 #[.pointer (some ⟨r,0,none⟩)] w (zJ r g w res)
 row:∀w o cap ts res,ZY f [] ts=some res→zi ts→zg r g o cap ts w→ZC w→Calls Tryz.prog 196 #[.pointer (some ⟨r,0,none⟩),.func (.func 44) #[.pointer (some ⟨r,0,none⟩)] #[]] w (vS r g w res)
 brackets:∀w o cap ts res,zA f ts=some res→zi ts→zg r g o cap ts w→ZC w→Calls Tryz.prog 195 #[.pointer (some ⟨r,0,none⟩),.func (.func 44) #[.pointer (some ⟨r,0,none⟩)] #[]] w (vS r g w res)
theorem ue.expr {r g f:Nat} (C:ue r g f) (hrl:r≠1) (w:World) (o cap:Nat) (ts:List Tk) (res:PR Ex) (hp:zf f 1 ts=some res) (hE:zi ts) (h:zg r g o cap ts w) (hl:ZC w) :
  Calls Tryz.prog 44 #[.pointer (some ⟨r,0,none⟩)] w (zJ r g w res):=by
 obtain ⟨t,y,rfl⟩:=hE.cons;exact zhK r g w res h.lt.1 h.lt.2 (C.between 1 _ o cap _ res hp hE (h.alloc _) (hl.kept ((zd.refl r w).alloc _) hrl))
theorem YM {α β:Type} {x:Option (PR α)} {k:α→List Tk→Option (PR β)} {r:PR β} (h:zh x k=some r):∃r1,x=some r1:=by
 cases x with
 | none=>cases h
 | some r1=>exact ⟨r1,rfl⟩
theorem ue.next {r g f:Nat} (hrl:r≠1) (C:ue r g f)
  (HB:∀o cap least ts w res,zg r g o cap ts w→zi ts→ZC w→least≤6→zf (f+1) least ts=some res→Calls Tryz.prog 86 #[.pointer (some ⟨r,0,none⟩),.int .i64 (least:Nat)] w (zJ r g w res))
  (HW:∀o cap ts w res,zg r g o cap ts w→zi ts→ZC w→zh (zC f ts) (fun e ts=>zw f e ts)=some res→Calls Tryz.prog 148 #[.pointer (some ⟨r,0,none⟩)] w (zJ r g w res)):ue r g (f+1) where
 between:=fun least w o cap ts res hp hE h hl=>by
  by_cases h6:6<least
  ·obtain ⟨t,A,rfl⟩:=hE.cons
   rw [zf,if_pos h6] at hp;exact zbW r g least w res h.lt.1 h.lt.2 h6 (C.unary _ o cap _ res hp hE (h.alloc _) (hl.kept ((zd.refl r w).alloc _) hrl))
  ·exact HB o cap least ts w res h hE hl (by omega) hp
 unary:=fun w o cap ts res hp hE h hl=>by
  obtain ⟨t,A,rfl⟩:=hE.cons;rw [Zg] at hp;simp only [zE,List.tail_cons] at hp
  by_cases hs:t.k=4∧(t.s=[45]∨t.s=[33])
  ·rw [if_pos hs] at hp
   obtain ⟨z,G⟩:=YM hp;have y:=hE.tail (by omega:t.k≠0)
   have R:=QK r g o cap t A w z h hE hs.1 (by simpa using hs.2) fun w1 o1 cap1 hR hK=>C.unary w1 o1 cap1 A z G y hR (hl.kept hK hrl)
   have D:UA t z=res:=by
    rw [G] at hp;rcases z with a | ⟨x,J⟩ <;> simpa [zh,UA] using hp
   rw [←D];exact R
  ·rw [if_neg hs] at hp
   exact zaN r g o cap t A w res h hs fun w1 hR hK=>HW o cap _ w1 res hR hE (hl.kept hK hrl) hp
 row:=fun w o cap ts res hp hE h hl=>ziC r g o cap f ts w res h hE h.few hp fun w1 o1 cap1 ts1 z H y _ hR hK=>C.expr hrl w1 o1 cap1 ts1 z H y hR (hl.kept hK hrl)
 brackets:=fun w o cap ts res hp hE h hl=>by
  obtain ⟨t,A,rfl⟩:=hE.cons;rw [zA] at hp;simp only [zR,zE,List.tail_cons] at hp
  by_cases hi:zm t [40]=true
  ·rw [if_pos hi] at hp
   simp only [zh] at hp;have y:=hE.tail (zj hi)
   by_cases hj:zm (zv A) [41]=true
   ·rw [if_pos hj] at hp
    have D:Yn t A (.error 0)=res:=by unfold Yn;rw [if_pos hi,if_pos hj];simpa using hp
    rw [←D];exact Vi r g o cap _ t A w (.error 0) h hE (fun _ _ h=>by cases h) fun _ hj'=>by rw [hj] at hj';cases hj'
   ·rw [if_neg hj] at hp
    change zh (ZY f [] A) _=some res at hp
    obtain ⟨z,G⟩:=YM hp
    have D:Yn t A z=res:=by
     unfold Yn
     rw [if_pos hi,if_neg hj];rw [G] at hp;rcases z with a | ⟨l,J⟩
     ·simpa [zh] using hp
     ·simp only [zh] at hp
      by_cases hk:zm (zv J) [41]=true
      ·simpa [hk] using hp
      ·simpa [hk] using hp
    rw [←D];exact Vi r g o cap _ t A w z h hE (fun l J he=>by subst he;exact (Zi f).2.2.2.2.2.1 _ _ _ _ G y) fun _ _ w1 o1 cap1 hR hK=>C.row w1 o1 cap1 A z G y hR (hl.kept hK hrl)
  ·rw [if_neg hi] at hp
   have D:Yn t A (.error 0)=res:=by unfold Yn;rw [if_neg hi];exact Option.some.inj hp
   rw [←D];exact Vi r g o cap _ t A w (.error 0) h hE (fun _ _ h=>by cases h) fun hi'=>absurd hi' hi
 single:=fun w o cap ts res hp hE h hl=>by
  obtain ⟨t,A,rfl⟩:=hE.cons;rw [zC] at hp;simp only [zE,List.tail_cons] at hp
  by_cases h2:t.k=2
  ·rw [if_pos h2] at hp
   simp only [Option.some.injEq] at hp;subst hp;exact za1 r g o cap t A w h h2 (hE.tail (by omega)).ne
  ·rw [if_neg h2] at hp
   by_cases h3:t.k=3
   ·rw [if_pos h3] at hp
    simp only [Option.some.injEq] at hp;subst hp;exact za2 r g o cap t A w h h3 (hE.tail (by omega)).ne
   ·rw [if_neg h3] at hp
    by_cases G:t.k=1
    ·rw [if_pos G] at hp
     have y:=hE.tail (by omega:t.k≠0)
     obtain ⟨u,J,rfl⟩:=y.cons;refine QU r g o cap t (u::J) w res h G fun w1 hR hK=>?_
     simp only [zE] at hp
     by_cases hi:zm u [40]=true
     ·rw [if_pos hi] at hp
      obtain ⟨z,H⟩:=YM hp
      have D:zcW t z=res:=by
       rw [H] at hp;rcases z with a | ⟨l,N⟩ <;> simpa [zh,zcW] using hp
      rw [←D];exact zbV r g o cap t u J w1 z hR G hi fun w2 o2 cap2 hR2 hK2=>C.brackets w2 o2 cap2 _ z H y hR2 ((hl.kept hK hrl).kept hK2 hrl)
     ·rw [if_neg hi] at hp
      simp only [Option.some.injEq] at hp;subst hp;exact zaM r g o cap t u J w1 hR G (by simpa using hi)
    ·rw [if_neg G] at hp
     by_cases hT:zm t [116,114,117,101]=true
     ·rw [if_pos hT] at hp
      simp only [Option.some.injEq] at hp;subst hp;exact QL r g o cap t A w hT h hE G h2 h3
     ·rw [if_neg hT] at hp
      have I:zm t [116,114,117,101]=false:=by simpa using hT
      by_cases hF:zm t [102,97,108,115,101]=true
      ·rw [if_pos hF] at hp
       simp only [Option.some.injEq] at hp;subst hp;exact qq r g o cap t A w hF h hE G h2 h3 I
      ·rw [if_neg hF] at hp
       have L:zm t [102,97,108,115,101]=false:=by simpa using hF
       by_cases hN:zm t [110,101,119]=true
       ·rw [if_pos hN] at hp
        have y:=hE.tail (zj hN);obtain ⟨u,J,rfl⟩:=y.cons;simp only [Z3,zE,List.tail_cons] at hp
        by_cases hk:u.k=1
        ·rw [if_pos hk] at hp
         change zh (zA f J) _=some res at hp
         obtain ⟨z,H⟩:=YM hp
         have D:QM t u z=res:=by
          unfold QM
          rw [if_pos hk];rw [H] at hp;rcases z with a | ⟨l,N⟩ <;> simpa [zh] using hp
         rw [←D];exact uE r g o cap t u J w z hN (fun _ w2 o2 cap2 hR2 hK2=>C.brackets w2 o2 cap2 _ z H (y.tail (by omega)) hR2 (hl.kept hK2 hrl)) h hE G h2 h3 I L
        ·rw [if_neg hk] at hp
         have D:QM t u (.error 0)=res:=by unfold QM;rw [if_neg hk];simpa [zh] using hp
         rw [←D];exact uE r g o cap t u J w (.error 0) hN (fun hk'=>absurd hk' hk) h hE G h2 h3 I L
       ·rw [if_neg hN] at hp
        have O:zm t [110,101,119]=false:=by simpa using hN
        by_cases hA:zm t [91]=true
        ·rw [if_pos hA] at hp
         have y:=hE.tail (zj hA);obtain ⟨z,H⟩:=YM hp
         have D:Vj t z=res:=by
          unfold Vj
          rw [H] at hp;rcases z with a | ⟨l,N⟩
          ·simpa [zh] using hp
          ·simp only [zh,zR] at hp
           by_cases hk:zm (zv N) [93]=true
           ·simpa [hk] using hp
           ·simpa [hk] using hp
         rw [←D];exact qr r g o cap t A w z hA (fun l N he=>by subst he;exact (Zi f).2.2.2.2.2.1 _ _ _ _ H y) (fun w2 o2 cap2 hR2 hK2=>C.row w2 o2 cap2 _ z H y hR2 (hl.kept hK2 hrl)) h hE G h2 h3 I L O
        ·rw [if_neg hA] at hp
         have Q:zm t [91]=false:=by simpa using hA
         simp only [zR,zE,List.tail_cons] at hp
         by_cases hP:zm t [40]=true
         ·rw [if_pos hP] at hp
          change zh (zf f 1 A) _=some res at hp
          have y:=hE.tail (zj hP);obtain ⟨z,H⟩:=YM hp
          have D:xY t z=res:=by
           unfold xY
           rw [if_pos hP];rw [H] at hp;rcases z with a | ⟨l,N⟩
           ·simpa [zh] using hp
           ·simp only [zh] at hp
            by_cases hk:zm (zv N) [41]=true
            ·simpa [hk] using hp
            ·simpa [hk] using hp
          rw [←D];exact vT r g o cap t A w z (fun l N he=>by subst he;exact (Zi f).1 _ _ _ _ H y) (fun _ w2 o2 cap2 hR2 hK2=>C.expr hrl w2 o2 cap2 _ z H y hR2 (hl.kept hK2 hrl)) h hE G h2 h3 I L O Q
         ·rw [if_neg hP] at hp
          have D:xY t (.error 0)=res:=by unfold xY;rw [if_neg hP];simpa [zh] using hp
          rw [←D];exact vT r g o cap t A w (.error 0) (fun _ _ h=>by cases h) (fun hP'=>absurd hP' hP) h hE G h2 h3 I L O Q
def UG (f:Nat) (e:Ex) (ts:List Tk):Option (PR Ex):=zh (zR [93] ts) fun _ ts=>zw f e ts
theorem zgJ (r g o cap F:Nat) (ts:List Tk) (w:World) (res:PR Ex) (h:zg r g o cap ts w) (hE:zi ts) (hp:zh (zC F ts) (fun e ts=>zw F e ts)=some res)
  (hsg:∀w1 o1 U ts1 r1,zC F ts1=some r1→zi ts1→zg r g o1 U ts1 w1→zd r w w1→Calls Tryz.prog 180 #[.pointer (some ⟨r,0,none⟩)] w1 (zJ r g w1 r1))
  (hex:∀w1 o1 U ts1 r1,zf F 1 ts1=some r1→zi ts1→zg r g o1 U ts1 w1→zd r w w1→Calls Tryz.prog 44 #[.pointer (some ⟨r,0,none⟩)] w1 (zJ r g w1 r1)) :
  Calls Tryz.prog 148 #[.pointer (some ⟨r,0,none⟩)] w (zJ r g w res):=by
 obtain ⟨t0,ba,rfl⟩:=hE.cons;have hr:=h.lt.1;have aE:=h.lt.2;cases hb:zC F (t0::ba) with
 | none=>rw [hb] at hp;cases hp
 | some r1 =>
  obtain ⟨w0,aF⟩:∃w0,w0=w.alloc Zz:=⟨_,rfl⟩;have c1:=hsg w0 o cap (t0::ba) r1 hb hE (by rw [aF];exact h.alloc _) (by rw [aF];exact (zd.refl r w).alloc _)
  rw [hb] at hp;simp only [zh] at hp;have az:Hid (w0=w.alloc Zz):=aF;have ar:Hid (∀w1 o1 U ts1 r1,zf F 1 ts1=some r1→zi ts1→zg r g o1 U ts1 w1→zd r w w1→Calls Tryz.prog 44 #[.pointer (some ⟨r,0,none⟩)] w1 (zJ r g w1 r1)):=hex;clear aF hex hsg
  go_enter Tryz.func148,Tryz.ntmps148
  go_wp2_with fail
  rw [←az.out];refine c1.mono ?_;clear c1;rintro e w1 ⟨aL,z⟩;have bj:zd r w w1:=by have:=az.out;subst this;exact ((zd.refl r w).alloc _).trans aL
  rcases r1 with a | ⟨x,us⟩
  ·obtain rfl:=z
   simp only [Option.some.injEq] at hp;subst hp;exact ⟨rfl,bj,rfl⟩
  ·obtain ⟨v,o1,U,rfl,hx,af⟩:=z
   obtain ⟨a,b,c,d0,d1,d2,l,rfl⟩:=hx.agg;have bn:=(Zi F).2.2.2.2.1 _ _ _ hb hE;have hJ:=ZU.start (p:=fun f e ts=>zw f e ts) (res:=res) az.out hr aL hx af hp bn af.few
   have HJ:Hid (ZU r g w1.heap.size F w res (fun f e ts=>zw f e ts) (w1.alloc (.cells #[.int .i64 a,.string b,.int .i64 c,.slice d0 d1 d2,.int .i64 l] 45))):=hJ
   have av:w.heap.size<w1.heap.size:=by have:=aL.size;have h2:=az.out;subst h2;simp at this;omega
   obtain ⟨N,a6⟩:∃N,N=w1.heap.size:=⟨_,rfl⟩;rw [←a6] at HJ av;clear hJ hx af aL bn hp hb hE h bj az;go_wp2_with fail
   rw [←a6];generalize hW0:w1.alloc (.cells #[.int .i64 a,.string b,.int .i64 c,.slice d0 d1 d2,.int .i64 l] 45)=W0 at *;clear hW0 a6
   go_loopw [7] (fun _ wr=>ZU r g N F w res (fun f e ts=>zw f e ts) wr) (fun _ wr=>ZP r wr)
   case atStart=>exact HJ.out
   case round =>
    obtain ⟨e,bE,o2,y,f2,a2,b2,c2,p2,Z,Y,l2,bC,J,aP,bF,ap,aM,aB,a1,aD⟩:=hrel;obtain ⟨t2,Q,rfl⟩:=aP.cons;obtain rfl:l2=(e.line:Int):=aM.line_eq;clear HJ;have cs:=Zx r g o2 y t2 Q [91] wr aB (fun hi=>(aP.tail (zj hi)).ne)
    have ay:=aB.left
    have aI:Hid (∀W,zd r wr W→zg r g o2 y (t2::Q) W→W.heap[N]?=some (.cells #[.int .i64 a2,.string b2,.int .i64 c2,.slice p2 Z Y,.int .i64 (e.line:Int)] 45 (0,0))∧W.heap[w.heap.size]?=some Zz ∧
     zJ r g w (.ok (e,t2::Q)) (.returned (.agg #[.int .i64 a2,.string b2,.int .i64 c2,.slice p2 Z Y,.int .i64 (e.line:Int)])) (set5 W w.heap.size (.int .i64 a2) (.string b2) (.int .i64 c2) (.slice p2 Z Y) (.int .i64 (e.line:Int)))) :=
     fun W hK af=>ZU.leave hr aE av a1 ap aD aM hK af
    have ah:Hid (∀W,zd r wr W→W.heap[N]?=some (.cells #[.int .i64 a2,.string b2,.int .i64 c2,.slice p2 Z Y,.int .i64 (e.line:Int)] 45 (0,0))∧W.heap[w.heap.size]?=some Zz) :=
     fun W hK=>⟨(hK.block _ (Array.getElem?_eq_some_iff.1 ap).1 (by omega)).trans ap,(hK.block _ (Array.getElem?_eq_some_iff.1 aD).1 (by omega)).trans aD⟩
    have ad:Hid (zZ (fun k=>w.heap.size<k∧k≠N) wr e (.agg #[.int .i64 a2,.string b2,.int .i64 c2,.slice p2 Z Y,.int .i64 (e.line:Int)])):=aM
    have O:Hid (zd r w wr):=a1;have aa:Hid (zi (t2::Q)):=aP;cases f2 with
    | zero=>simp [zw] at J
    | succ f3 =>
     have aY:f3≤F:=by omega
     simp only [zw,zE,List.tail_cons] at J;clear aM a1 aB aP ap aD
     by_cases hi:zm t2 [91]=true
     ·rw [hi] at cs
      rw [if_pos hi] at J;have V:=aa.out.tail (zj hi);go_wp2_with fail
      refine cs.mono ?_;clear cs;rintro e' wE ⟨rfl,am,ax⟩;simp only [if_true] at ax;obtain ⟨pN,pz⟩:=ah.out wE am;have ab:Hid (zd r wr wE):=am;have D:Hid (zd r w wE):=O.out.trans am;have L:N<wE.heap.size:=(Array.getElem?_eq_some_iff.1 pN).1;cases hb3:zf f3 1 Q with
      | none=>rw [hb3] at J;cases J
      | some r3 =>
       rw [hb3] at J;simp only [zh] at J
       have a4:zf F 1 Q=some r3:=by
        have:=YU (k:=F-f3) hb3
        rwa [show f3+(F-f3)=F by omega] at this
       have cb:∀W:World,W.heap=wE.heap→W.os=wE.os→W.tape=wE.tape→W.output=wE.output→Calls Tryz.prog 44 #[.pointer (some ⟨r,0,none⟩)] W fun e w'=>zd r wE w'∧zJ r g W r3 e w':=fun W e1 e2 e3 e4 =>
        (ar.out W _ _ Q r3 a4 V (ax.keep (by rw [e1]) (by rw [e1])) ⟨e2.trans D.out.os,e3.trans D.out.tape,e4.trans D.out.output,by rw [e1];exact D.out.size,fun k hk hr=>by rw [e1];exact D.out.block k hk hr⟩).mono fun e w' h =>
         ⟨⟨h.1.os.trans e2,h.1.tape.trans e3,h.1.output.trans e4,by rw [←e1];exact h.1.size,fun k hk hr=>by rw [←e1];exact h.1.block k (by rw [e1];exact hk) hr⟩,h⟩
       obtain ⟨n0,n1,n2,n3,n4,nf⟩:=zU pN;have ai:Hid (wE.heap[N]?=some (.cells #[.int .i64 a2,.string b2,.int .i64 c2,.slice p2 Z Y,.int .i64 (e.line:Int)] 45 (0,0))):=pN;have ae:Hid (wE.heap[w.heap.size]?=some Zz):=pz;clear pN pz ax am ar ah aI;rcases r3 with a3 | ⟨x3,aZ⟩
       ·simp only [Option.some.injEq] at J
        subst J;have I:∀W:World,W.heap=wE.heap→W.os=wE.os→W.tape=wE.tape→W.output=wE.output→Calls Tryz.prog 44 #[.pointer (some ⟨r,0,none⟩)] W fun e w'=>e=ZI a3∧zd r w w':=fun W e1 e2 e3 e4=>(cb W e1 e2 e3 e4).mono fun e w' h=>⟨h.2.2,D.out.trans h.1⟩
        clear cb;go_wp2_with fail
        go_region_dies
        all_goals (go_wp2_with fail;refine (I _ (by rfl) (by rfl) (by rfl) (by rfl)).mono ?_;rintro e w4 ⟨rfl,H⟩;exact ⟨rfl,H,rfl⟩)
       ·have br:=(Zi F).1 _ _ _ _ a4 V
        have bt:=Yv a4;have ak:aZ.length<ZP r wr:=by rw [ay];simp only [List.length_cons];omega
        have HT:Hid (UG f3 (.mk 8 [] 0 [e,x3] e.line) aZ=some res):=J
        have I:∀W:World,W.heap=wE.heap→W.os=wE.os→W.tape=wE.tape→W.output=wE.output→Calls Tryz.prog 44 #[.pointer (some ⟨r,0,none⟩)] W fun e' w'=>∃(a3:Int) (b3:ByteArray) (c3:Int) (u0:Option Addr) (u1 u2:Nat) (l3:Int),e'=.returned (.agg #[.int .i64 a3,.string b3,.int .i64 c3,.slice u0 u1 u2,.int .i64 l3]) ∧
          w'.heap[N]?=some (.cells #[.int .i64 a2,.string b2,.int .i64 c2,.slice p2 Z Y,.int .i64 (e.line:Int)] 45 (0,0))∧Hid (zd r wE w'∧ZL wE.heap.size w' x3 (.agg #[.int .i64 a3,.string b3,.int .i64 c3,.slice u0 u1 u2,.int .i64 l3])∧∃o cap,zg r g o cap aZ w'):=fun W e1 e2 e3 e4=>(cb W e1 e2 e3 e4).mono fun e' w' h=>by
         obtain ⟨H,-,v,o4,a9,rfl,hx,af⟩:=h;obtain ⟨a3,b3,c3,u0,u1,u2,l3,rfl⟩:=hx.agg;exact ⟨a3,b3,c3,u0,u1,u2,l3,rfl,(H.block N L (by omega)).trans ai.out,H,(by rw [←e1];exact hx:ZL wE.heap.size w' x3 _),o4,a9,af⟩
        clear cb J;go_wp2_with fail
        go_cut [] from 6 to 28 (fun wx=>ZU r g N F w res UG wx∧ZP r wx<ZP r wr)
        case first =>
         go_region_with (go_at_call 44;refine (I _ (by rfl) (by rfl) (by rfl) (by rfl)).mono ?_;rintro e' w7 ⟨a3,b3,c3,u0,u1,u2,l3,rfl,p7,H7⟩;have a8:N<w7.heap.size:=(Array.getElem?_eq_some_iff.1 p7).1;have aw:=(fun ob=>(Below.heap_alloc w7 ob N a8).trans p7);obtain ⟨m0,m1,m2,m3,m4,mf⟩:=zU p7;have aS:=zl m0;have aQ:=zl m1;have aO:=zl m2;have aH:=zl m3;have aJ:=zl m4;have aR:=(fun ob j=>(zU (aw ob)).2.2.2.2.2 j))
         all_goals
          obtain ⟨ag,bi,o7,bB,A⟩:=H7.out;obtain ⟨W,hW⟩:∃W,W=(set5 w7 N (.int .i64 8) (.string ⟨#[]⟩) (.int .i64 0) (.slice (some ⟨w7.heap.size,0,none⟩) 2 2) (.int .i64 (e.line:Int))).alloc (.cells #[.int .i64 a2,.string b2,.int .i64 c2,.slice p2 Z Y,.int .i64 (e.line:Int),.int .i64 a3,.string b3,.int .i64 c3,.slice u0 u1 u2,.int .i64 l3] 45):=⟨_,rfl⟩;obtain ⟨hJ,G⟩:=ZU.two (p:=UG) 8 [] hr aE av L ad.out O.out ab.out ag p7 ae.out bi A aY HT.out br A.few (.int .i64 8) rfl W hW;have aA:Hid (ZU r g N F w res UG W∧ZP r W<ZP r wr):=show _∧_<_ from ⟨hJ,by rw [G];exact ak⟩
          change Exit.then _ _ _ _ ((set5 w7 N (.int .i64 8) (.string ⟨#[]⟩) (.int .i64 0) (.slice (some ⟨w7.heap.size,0,none⟩) 2 2) (.int .i64 (e.line:Int))).alloc (.cells #[.int .i64 a2,.string b2,.int .i64 c2,.slice p2 Z Y,.int .i64 (e.line:Int),.int .i64 a3,.string b3,.int .i64 c3,.slice u0 u1 u2,.int .i64 l3] 45))
          rw [←hW];clear hW hJ G A bi ag p7 aw m0 m1 m2 m3 m4 mf aS aQ aO aH aJ aR n0 n1 n2 n3 n4 nf I H7 ai ae HT ab D ad O aa bt ak br V;go_wp2_with fail
          go_meet
          exact aA.out
        case rest =>
         obtain ⟨⟨e5,bJ,o5,aU,f5,a5,b5,c5,p5,q5,s5,l5,bx,aj,a0,bG,al,aX,aq,aT,a7⟩,bD⟩:=hcut;obtain ⟨t5,bm,rfl⟩:=a0.cons;have cn:=yJ r g o5 aU t5 bm [93] wc aq (fun hi=>(a0.tail (zj hi)).ne)
         have aK:=aq.left
         unfold UG zR at aj
         simp only [zE,List.tail_cons] at aj
         by_cases hm:zm t5 [93]=true
         ·simp only [if_pos hm] at cn
          rw [if_pos hm] at aj
          have bp:Hid (∀W,zd r wc W→zg r g (o5+5) (aU-1) bm W→ZU r g N F w res (fun f e ts=>zw f e ts) W∧ZP r W<ZP r wr):=fun W hK hR =>
           ⟨ZU.moved (p:=fun f e ts=>zw f e ts) hr av al aX aT a7 hK hR bx aj (a0.tail (zj hm)),by rw [hR.left];simp only [List.length_cons] at aK;omega⟩
          clear aj al aX aq aT a7 I HT ad O aa ab D ai ae n0 n1 n2 n3 n4 nf;go_wp2_with fail
          refine cn.mono ?_;clear cn;rintro e9 w9 ⟨aC,rfl,bs⟩;have bw:Hid (ZU r g N F w res (fun f e ts=>zw f e ts) w9∧ZP r w9<ZP r wr):=bp.out w9 aC bs
          clear bp aC bs;go_wp2
          exact bw.out
         ·simp only [if_neg hm] at cn
          rw [if_neg hm] at aj;simp only [zh,Option.some.injEq] at aj;subst aj;have bv:Hid (zd r w wc):=aT;clear al aX aq aT a7 I HT ad O aa ab D ai ae n0 n1 n2 n3 n4 nf;go_wp2_with fail
          refine cn.mono ?_;clear cn;rintro e9 w9 ⟨aC,rfl⟩;exact ⟨rfl,bv.out.trans aC,rfl⟩
     ·have bz:zm t2 [91]=false:=by simpa using hi
      rw [bz] at cs;rw [if_neg hi] at J;go_wp2_with fail
      refine cs.mono ?_;clear cs;rintro e' wB ⟨rfl,bf,bq⟩;have aV:zg r g o2 y (t2::Q) wB:=by simpa using bq
      have cd:=Zx r g o2 y t2 Q [46] wB aV (fun hi=>(aa.out.tail (zj hi)).ne)
      have aG:Hid (zd r wr wB):=bf;clear bf bq aV
      by_cases hd:zm t2 [46]=true
      ·rw [hd] at cd
       rw [if_pos hd] at J;have V:=aa.out.tail (zj hd);obtain ⟨T,R,rfl⟩:=V.cons;go_wp2_with fail
       refine cd.mono ?_;clear cd;rintro e' wE ⟨rfl,am,ax⟩;have ao:zd r wr wE:=aG.out.trans am;have aW:zg r g (o2+5) (y-1) (T::R) wE:=by simpa using ax
       obtain ⟨pN,pz⟩:=ah.out wE ao;have ab:Hid (zd r wr wE):=ao;have D:Hid (zd r w wE):=O.out.trans ao;have L:N<wE.heap.size:=(Array.getElem?_eq_some_iff.1 pN).1;have au:Hid (zg r g (o2+5) (y-1) (T::R) wE):=aW;obtain ⟨n0,n1,n2,n3,n4,nf⟩:=zU pN;have bo:=zl n0;have bd:=zl n1;have bc:=zl n2;have bb:=zl n3;have bh:=zl n4;have ai:Hid (wE.heap[N]?=some (.cells #[.int .i64 a2,.string b2,.int .i64 c2,.slice p2 Z Y,.int .i64 (e.line:Int)] 45 (0,0))):=pN;have ae:Hid (wE.heap[w.heap.size]?=some Zz):=pz
       have cb:∀W:World,zd r wE W→zg r g (o2+5) (y-1) (T::R) W→Calls Tryz.prog 94 #[.pointer (some ⟨r,0,none⟩)] W fun e w'=>zd r W w'∧if T.k=1 then e=.returned (.string (zb T.s))∧zg r g (o2+5+5) (y-1-1) R w' else e=ZI T.at0:=fun W hK hR =>
        xu r g _ _ T R W hR (fun hk=>(V.tail (by omega)).ne)
       simp only [Z3,zE,List.tail_cons] at J;clear pN pz ax aW am ao aG ah aI ar
       by_cases h3:T.k=1
       ·rw [if_pos h3] at J
        have aN:=V.tail (by omega:T.k≠0)
        have ak:R.length<ZP r wr:=by rw [ay];simp only [List.length_cons];omega
        have HT:Hid (zw f3 (.mk 9 T.s 0 [e] e.line) R=some res):=J
        have I:∀W:World,zd r wE W→zg r g (o2+5) (y-1) (T::R) W→Calls Tryz.prog 94 #[.pointer (some ⟨r,0,none⟩)] W fun e' w'=>e'=.returned (.string (zb T.s))∧w'.heap[N]?=some (.cells #[.int .i64 a2,.string b2,.int .i64 c2,.slice p2 Z Y,.int .i64 (e.line:Int)] 45 (0,0))∧W.heap.size≤w'.heap.size∧Hid (zd r W w'∧zg r g (o2+5+5) (y-1-1) R w'):=fun W hK hR=>(cb W hK hR).mono fun e' w' h=>by
         obtain ⟨H,z⟩:=h;rw [if_pos h3] at z;obtain ⟨rfl,af⟩:=z;exact ⟨rfl,(H.block N (Nat.lt_of_lt_of_le L hK.size) (by omega)).trans ((hK.block N L (by omega)).trans ai.out),H.size,H,af⟩
        clear cb J;go_wp2_with fail
        go_region_with (go_at_call 94;refine (I _ (by first | exact zd.drew r wE | exact ((zd.refl r wE).alloc _).trans (zd.drew _ _)) (by first | exact au.out.keep rfl rfl | exact (au.out.alloc _).keep rfl rfl)).mono ?_;rintro e' w7 ⟨rfl,p7,bI,H7⟩;have a8:N<w7.heap.size:=(Array.getElem?_eq_some_iff.1 p7).1;have aw:=(fun ob=>(Below.heap_alloc w7 ob N a8).trans p7);obtain ⟨m0,m1,m2,m3,m4,mf⟩:=zU p7;have aS:=zl m0;have aQ:=zl m1;have aO:=zl m2;have aH:=zl m3;have aJ:=zl m4;have aR:=(fun ob j=>(zU (aw ob)).2.2.2.2.2 j))
        all_goals (obtain ⟨an,A⟩:=H7.out)
        all_goals first
         | (have ag:zd r wE w7:=(zd.drew r wE).trans an
            obtain ⟨W,hW⟩:∃W,W=(set5 w7 N (.int .i64 9) (.string (zb T.s)) (.int .i64 0) (.slice (some ⟨w7.heap.size,0,none⟩) 1 1) (.int .i64 (e.line:Int))).alloc (.cells #[.int .i64 a2,.string b2,.int .i64 c2,.slice p2 Z Y,.int .i64 (e.line:Int)] 45):=⟨_,rfl⟩;obtain ⟨hJ,G⟩:=ZU.one (p:=fun f e ts=>zw f e ts) 9 T.s hr aE av L ad.out O.out ab.out ag p7 ae.out A aY HT.out aN A.few (.int .i64 9) rfl W hW
            have aA:Hid (ZU r g N F w res (fun f e ts=>zw f e ts) W∧ZP r W<ZP r wr):=show _∧_<_ from ⟨hJ,by rw [G];exact ak⟩
            change Exit.inBlock _ _ _ _ ((set5 w7 N (.int .i64 9) (.string (zb T.s)) (.int .i64 0) (.slice (some ⟨w7.heap.size,0,none⟩) 1 1) (.int .i64 (e.line:Int))).alloc (.cells #[.int .i64 a2,.string b2,.int .i64 c2,.slice p2 Z Y,.int .i64 (e.line:Int)] 45))
            rw [←hW];clear hW hJ G A ag an p7 aw m0 m1 m2 m3 m4 mf aS aQ aO aH aJ aR n0 n1 n2 n3 n4 nf bo bd bc bb bh I H7 ai ae HT ab D ad O aa ak aN V au;go_wp2
            exact aA.out)
         | (have ag:zd r (wE.alloc (.cells #[.int .i64 a2,.string b2,.int .i64 c2,.slice p2 Z Y,.int .i64 (e.line:Int)] 45)) w7:=(zd.drew r (wE.alloc (.cells #[.int .i64 a2,.string b2,.int .i64 c2,.slice p2 Z Y,.int .i64 (e.line:Int)] 45))).trans an
            obtain ⟨W,hW⟩:∃W,W=set5 w7 N (.int .i64 9) (.string (zb T.s)) (.int .i64 0) (.slice (some ⟨wE.heap.size,0,none⟩) 1 1) (.int .i64 (e.line:Int)):=⟨_,rfl⟩;obtain ⟨hJ,G⟩:=ZU.one' (p:=fun f e ts=>zw f e ts) 9 T.s hr aE av L ad.out O.out ab.out ag p7 ae.out A aY HT.out aN (.int .i64 9) rfl W hW
            have aA:Hid (ZU r g N F w res (fun f e ts=>zw f e ts) W∧ZP r W<ZP r wr):=show _∧_<_ from ⟨hJ,by rw [G];exact ak⟩
            change Exit.inBlock _ _ _ _ (set5 w7 N (.int .i64 9) (.string (zb T.s)) (.int .i64 0) (.slice (some ⟨wE.heap.size,0,none⟩) 1 1) (.int .i64 (e.line:Int)))
            rw [←hW];clear hW hJ G A ag an p7 aw m0 m1 m2 m3 m4 mf aS aQ aO aH aJ aR n0 n1 n2 n3 n4 nf bo bd bc bb bh I H7 ai ae HT ab D ad O aa ak aN V au;go_wp2
            exact aA.out)
       ·rw [if_neg h3] at J
        simp only [zh,Option.some.injEq] at J;subst J
        have I:∀W:World,zd r wE W→zg r g (o2+5) (y-1) (T::R) W→Calls Tryz.prog 94 #[.pointer (some ⟨r,0,none⟩)] W fun e w'=>e=ZI T.at0∧zd r w w':=fun W hK hR=>(cb W hK hR).mono fun e w' h=>by
         obtain ⟨H,z⟩:=h;rw [if_neg h3] at z;exact ⟨z,D.out.trans (hK.trans H)⟩
        clear cb;go_wp2_with fail
        go_region_dies
        all_goals
         go_wp2_with fail
         refine (I _ ?_ ?_).mono ?_
         ·first | exact zd.drew r wE | exact ((zd.refl r wE).alloc _).trans (zd.drew _ _)
         ·first | exact au.out.keep rfl rfl | exact (au.out.alloc _).keep rfl rfl
         ·rintro e w4 ⟨rfl,H⟩;exact ⟨rfl,H,rfl⟩
      ·have bu:zm t2 [46]=false:=by simpa using hd
       rw [bu] at cd;rw [if_neg hd] at J;simp only [Option.some.injEq] at J;subst J;go_wp2_with fail
       refine cd.mono ?_;clear cd;rintro e' wC ⟨rfl,bg,be⟩;obtain ⟨pN,pz,bk⟩:=aI.out wC (aG.out.trans bg) (by simpa using be)
       obtain ⟨n0,n1,n2,n3,n4,nf⟩:=zU pN;obtain ⟨q0,q1,bH,q3,q4,qf⟩:=zU pz;obtain ⟨z0,z1,z2,z3,z4⟩:=zX pz (.int .i64 a2) (.string b2) (.int .i64 c2) (.slice p2 Z Y) (.int .i64 (e.line:Int));have bA:Hid (zJ r g w (.ok (e,t2::Q)) (.returned (.agg #[.int .i64 a2,.string b2,.int .i64 c2,.slice p2 Z Y,.int .i64 (e.line:Int)])) (set5 wC w.heap.size (.int .i64 a2) (.string b2) (.int .i64 c2) (.slice p2 Z Y) (.int .i64 (e.line:Int)))):=bk;clear aI ar ad O aa bk pN pz bg be aG ah;go_wp2
       exact bodyPost_ret (v:=.agg #[.int .i64 a2,.string b2,.int .i64 c2,.slice p2 Z Y,.int .i64 (e.line:Int)]) (by simp [results,Tryz.results148,go_sem,z0,z1,z2,z3,z4]) rfl bA.out
theorem zfd (r g:Nat) (hrl:r≠1):∀f,ue r g f:=by
 intro f
 induction f with
 | zero=>exact ⟨fun _ _ _ _ _ _ h=>by simp [zf] at h,fun _ _ _ _ _ h=>by simp [Zg] at h,fun _ _ _ _ _ h=>by simp [zC] at h,fun _ _ _ _ _ h=>by simp [ZY] at h,fun _ _ _ _ _ h=>by simp [zA] at h⟩
 | succ f C =>
  refine C.next hrl (fun o cap least ts w res h hE hl h6 hp=>?_) (fun o cap ts w res h hE hl hp=>?_)
  ·refine zdK r g o cap f least ts w res h hE h.few hl hrl h6 hp fun w1 o1 cap1 ts1 r1 hb hE1 _ hR hK=>?_
   have:=C.between (least+1) w1 o1 cap1 ts1 r1 hb hE1 hR (hl.kept hK hrl)
   simpa using this
  ·exact zgJ r g o cap f ts w res h hE hp (fun w1 o1 cap1 ts1 r1 hb hE1 hR hK=>C.single w1 o1 cap1 ts1 r1 hb hE1 hR (hl.kept hK hrl)) fun w1 o1 cap1 ts1 r1 hb hE1 hR hK=>C.expr hrl w1 o1 cap1 ts1 r1 hb hE1 hR (hl.kept hK hrl)
structure zh3 (r g f:Nat):Prop where
 stmt:∀w o cap ts res,Ze f ts=some res→zi ts→zg r g o cap ts w→ZC w→Calls Tryz.prog 136 #[.pointer (some ⟨r,0,none⟩)] w (ZH r g w res)
 block:∀w o cap ts res,zH f ts=some res→zi ts→zg r g o cap ts w→ZC w→Calls Tryz.prog 100 #[.pointer (some ⟨r,0,none⟩)] w (X5 r g w res)
theorem zh4 (r g:Nat) (hrl:r≠1):∀f,zh3 r g f:=by
 intro f
 induction f with
 | zero=>exact ⟨fun _ _ _ _ _ h=>by simp [Ze] at h,fun _ _ _ _ _ h=>by simp [zH] at h⟩
 | succ f C =>
  refine ⟨fun w o cap ts res hp hE h hl=>?_,fun w o cap ts res hp hE h hl=>?_⟩
  ·exact za0 r g o cap f ts w res h hE hp (fun w1 o1 cap1 ts1 r1 hb hE1 hR hK=>(zfd r g hrl f).expr hrl w1 o1 cap1 ts1 r1 hb hE1 hR (hl.kept hK hrl)) (fun w1 o1 cap1 ts1 r1 hb hE1 hR hK=>C.block w1 o1 cap1 ts1 r1 hb hE1 hR (hl.kept hK hrl))
  ·exact zgw r g o cap f ts w res h hE hp (fun w1 o1 cap1 ts1 r1 hb hE1 hR hK=>C.stmt w1 o1 cap1 ts1 r1 hb hE1 hR (hl.kept hK hrl))
end Go.Proofs.YtpejpbbdgblbeaaGreatDoor
