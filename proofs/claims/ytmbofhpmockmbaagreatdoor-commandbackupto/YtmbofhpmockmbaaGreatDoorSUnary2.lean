import Derived.Test.YtmbofhpmockmbaaGreatDoorMC19
namespace Go.Proofs.YtmbofhpmockmbaaGreatDoor
open Go.RowKit Go.Shelf
set_option maxHeartbeats 16000000
set_option maxRecDepth 100000
theorem xQ (r g o cap:Nat) (t:Tk) (ts:List Tk) (w:World) (res:PR Ex) (h:zc r g o cap (t::ts) w) (hs:¬(t.k=4∧(t.s=[45]∨t.s=[33])))
  (hwp:∀O,zc r g o cap (t::ts) O→zb r w O→Calls Tryz.prog 147 #[.pointer (some ⟨r,0,none⟩)] O (zi r g O res)) :
  Calls Tryz.prog 119 #[.pointer (some ⟨r,0,none⟩)] w (zi r g w res):=by
 have hr:=h.lt.1;have V:=h.lt.2;have T:=fun w=>Yp t.s w
 have h0:=h.alloc zA;have ch:=zZ r g o cap t ts _ h0;obtain ⟨w2,J⟩:∃w2,w2=((w.alloc zA).alloc (zE t)).alloc (zE t):=⟨_,rfl⟩;have h2:zc r g o cap (t::ts) w2:=by rw [J];exact (h0.alloc _).alloc _
 have k2:zb r w w2:=by rw [J];exact (((zb.refl r w).alloc _).alloc _).alloc _
 have U:=hwp w2 h2 k2
 have n0:w2.heap[w.heap.size]?=some zA:=by
  rw [J,Below.heap_alloc _ _ _ (by simp;omega),Below.heap_alloc _ _ _ (by simp)]
  exact World.alloc_heap_new _ _
 have M:w.heap.size<w2.heap.size:=(Array.getElem?_eq_some_iff.1 n0).1;have Q:Hid (w2.heap[w.heap.size]?=some zA):=n0;have N:Hid (zb r w w2):=k2;have K:Hid (w2=((w.alloc zA).alloc (zE t)).alloc (zE t)):=J;clear h h0 h2 k2 J hwp n0
 have S:∀e z,zi r g w2 res e z→(∃a,res=.error a∧e=Ze a∧zb r w z)∨∃(x:Ex) (I:List Tk) (a:Int) (b:ByteArray) (c:Int) (A:Option Addr) (E D:Nat) (l:Int),res=.ok (x,I)∧e=.returned (.agg #[.int .i64 a,.string b,.int .i64 c,.slice A E D,.int .i64 l])∧z.heap[w.heap.size]?=some zA ∧
   zi r g w (.ok (x,I)) (.returned (.agg #[.int .i64 a,.string b,.int .i64 c,.slice A E D,.int .i64 l])) (set5 z w.heap.size (.int .i64 a) (.string b) (.int .i64 c) (.slice A E D) (.int .i64 l)):=by
  rintro e z ⟨L,y⟩;rcases res with a | ⟨x,I⟩
  ·exact .inl ⟨a,rfl,y,N.out.trans L⟩
  ·obtain ⟨v,o3,aa,rfl,hx,Z⟩:=y
   obtain ⟨a,b,c,A,E,D,l,rfl⟩:=hx.agg;exact .inr ⟨x,I,a,b,c,A,E,D,l,rfl,rfl,(L.block _ M (by omega)).trans Q.out,zi.of_set5' (N.out.trans L) (Nat.le_refl _) hr V hx M Z⟩
 have H:Hid (∀e z,zi r g w2 res e z→(∃a,res=.error a∧e=Ze a∧zb r w z)∨∃(x:Ex) (I:List Tk) (a:Int) (b:ByteArray) (c:Int) (A:Option Addr) (E D:Nat) (l:Int),res=.ok (x,I)∧e=.returned (.agg #[.int .i64 a,.string b,.int .i64 c,.slice A E D,.int .i64 l])∧z.heap[w.heap.size]?=some zA ∧
   zi r g w (.ok (x,I)) (.returned (.agg #[.int .i64 a,.string b,.int .i64 c,.slice A E D,.int .i64 l])) (set5 z w.heap.size (.int .i64 a) (.string b) (.int .i64 c) (.slice A E D) (.int .i64 l))):=S
 clear S Q N M
 go_enter Tryz.func119,Tryz.ntmps119
 go_wp2_with fail
 refine ch.mono ?_;clear ch;rintro e O ⟨rfl,rfl⟩;simp only [YA]
 by_cases h4:t.k=4
 ·have hb:(t.s==[45]||t.s==[33])=false:=by
   rw [Bool.or_eq_false_iff,beq_eq_false_iff_ne,beq_eq_false_iff_ne];exact ⟨fun e=>hs ⟨h4,.inl e⟩,fun e=>hs ⟨h4,.inr e⟩⟩
  simp only [hb] at T;have W:(t.k:Int)=4:=by omega
  go_wp2_with (go_at_call 146;refine (T _).mono ?_;rintro e O ⟨rfl,rfl⟩)
  have hO:zE t=.cells #[.int .i64 4,.string (za t.s),.int .i64 t.n,.int .i64 t.line,.int .i64 t.at0] 142:=by simp only [zE,h4];rfl
  rw [show ((w.alloc zA).alloc (zE t)).alloc (.cells #[.int .i64 4,.string (za t.s),.int .i64 t.n,.int .i64 t.line,.int .i64 t.at0] 142)=w2 by rw [←hO];exact K.out.symm]
  refine U.mono ?_;clear U T K;intro e z y;rcases H.out e z y with ⟨a,rfl,rfl,hk⟩ | ⟨x,I,a,b,c,A,E,D,l,rfl,rfl,G,R⟩
  ·exact ⟨rfl,hk,rfl⟩
  ·obtain ⟨Y,X,z2,z3,z4⟩:=zo G (.int .i64 a) (.string b) (.int .i64 c) (.slice A E D) (.int .i64 l)
   have q0:z.cell? ⟨w.heap.size,0,none⟩=some (.int .i64 0):=by simp only [World.cell?,G];rfl
   have q1:z.cell? ⟨w.heap.size,1,none⟩=some (.string ⟨#[]⟩):=by simp only [World.cell?,G];rfl
   have q2:z.cell? ⟨w.heap.size,2,none⟩=some (.int .i64 0):=by simp only [World.cell?,G];rfl
   have q3:z.cell? ⟨w.heap.size,3,none⟩=some (.slice none 0 0):=by simp only [World.cell?,G];rfl
   have q4:z.cell? ⟨w.heap.size,4,none⟩=some (.int .i64 0):=by simp only [World.cell?,G];rfl
   have qf:∀j,z.frozen? ⟨w.heap.size,j,none⟩=false:=fun j=>by simp only [World.frozen?,G];simp
   have HP:Hid (zi r g w (.ok (x,I)) (.returned (.agg #[.int .i64 a,.string b,.int .i64 c,.slice A E D,.int .i64 l])) (set5 z w.heap.size (.int .i64 a) (.string b) (.int .i64 c) (.slice A E D) (.int .i64 l))):=R;clear H y R G;go_wp2
   exact bodyPost_ret (v:=.agg #[.int .i64 a,.string b,.int .i64 c,.slice A E D,.int .i64 l]) (by simp [results,Tryz.results119,go_sem,Y,X,z2,z3,z4]) rfl HP.out
 ·have W:¬(t.k:Int)=4:=by omega
  go_wp2_with fail
  rw [←K.out];refine U.mono ?_;clear U T K;intro e z y;rcases H.out e z y with ⟨a,rfl,rfl,hk⟩ | ⟨x,I,a,b,c,A,E,D,l,rfl,rfl,G,R⟩
  ·exact ⟨rfl,hk,rfl⟩
  ·obtain ⟨Y,X,z2,z3,z4⟩:=zo G (.int .i64 a) (.string b) (.int .i64 c) (.slice A E D) (.int .i64 l)
   have q0:z.cell? ⟨w.heap.size,0,none⟩=some (.int .i64 0):=by simp only [World.cell?,G];rfl
   have q1:z.cell? ⟨w.heap.size,1,none⟩=some (.string ⟨#[]⟩):=by simp only [World.cell?,G];rfl
   have q2:z.cell? ⟨w.heap.size,2,none⟩=some (.int .i64 0):=by simp only [World.cell?,G];rfl
   have q3:z.cell? ⟨w.heap.size,3,none⟩=some (.slice none 0 0):=by simp only [World.cell?,G];rfl
   have q4:z.cell? ⟨w.heap.size,4,none⟩=some (.int .i64 0):=by simp only [World.cell?,G];rfl
   have qf:∀j,z.frozen? ⟨w.heap.size,j,none⟩=false:=fun j=>by simp only [World.frozen?,G];simp
   have HP:Hid (zi r g w (.ok (x,I)) (.returned (.agg #[.int .i64 a,.string b,.int .i64 c,.slice A E D,.int .i64 l])) (set5 z w.heap.size (.int .i64 a) (.string b) (.int .i64 c) (.slice A E D) (.int .i64 l))):=R;clear H y R G;go_wp2
   exact bodyPost_ret (v:=.agg #[.int .i64 a,.string b,.int .i64 c,.slice A E D,.int .i64 l]) (by simp [results,Tryz.results119,go_sem,Y,X,z2,z3,z4]) rfl HP.out
end Go.Proofs.YtmbofhpmockmbaaGreatDoor
