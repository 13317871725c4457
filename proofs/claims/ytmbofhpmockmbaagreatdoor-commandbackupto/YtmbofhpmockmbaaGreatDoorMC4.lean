import Derived.Test.YtmbofhpmockmbaaGreatDoorMC1
namespace Go.Proofs.YtmbofhpmockmbaaGreatDoor
open Go.RowKit Go.Shelf
set_option maxHeartbeats 16000000
set_option maxRecDepth 100000
theorem yd (w:World) (A:Obj):∃w1,w1=w.alloc A∧Below w.heap.size w w1∧w1.heap.size=w.heap.size+1∧w1.heap[w.heap.size]?=some A :=
 ⟨_,rfl,(Below.refl _ _).alloc (Nat.le_refl _) _,by simp,World.alloc_heap_new _ _⟩
theorem vU (w:World) (A B:Obj):∃w1,w1=(w.alloc A).alloc B∧Below w.heap.size w w1∧w1.heap.size=w.heap.size+2∧w1.heap[w.heap.size]?=some A∧w1.heap[w.heap.size+1]?=some B :=
 ⟨_,rfl,((Below.refl _ _).alloc (Nat.le_refl _) _).alloc (by simp) _,by simp,by rw [Below.heap_alloc _ _ _ (by simp)];exact World.alloc_heap_new _ _,by
  have:=World.alloc_heap_new (w.alloc A) B
  simpa using this⟩
theorem xG (k:Int) (g:Nat) (r:Wq) (w:World) (h:w.cell? ⟨g,0,none⟩=some (.int .i64 k)) :
  Calls Tryz.prog 51 #[wV r,.pointer (some ⟨g,0,none⟩)] w fun e w'=>e=.returned (.bool (decide (r.1=k)))∧Below w.heap.size w w':=by
 obtain ⟨a,b,c,d,e,f⟩:=r
 unfold wV
 have x:g<w.heap.size:=World.block_lt_of_cell? w _ h;have y:∀o,(w.alloc o).cell? ⟨g,0,none⟩=some (.int .i64 k):=fun o=>by rw [World.cell?_alloc_lt _ _ _ x];exact h
 clear h
 go_enter Tryz.func51,Tryz.ntmps51
 go_wp2
 go_ret
 exact ⟨by rw [show (a==k)=decide (a=k) by by_cases h:a=k <;> simp [h]];rfl,(Below.refl _ w).alloc (Nat.le_refl _) _⟩
theorem Yg (k:Int) (w:World) :
  Calls Tryz.prog 24 #[.int .i64 k] w fun e w'=>e=.returned (wV (ofKind k))∧Below w.heap.size w w':=by
 have T:∀(fn:Fn) (first cap:Array Value) (w:World),(Instr.makeFunc fn first cap).run Tryz.prog w=.ok (.func fn first cap) w:=fun _ _ _ _=>rfl
 obtain ⟨D,y,h,o,M,A⟩:=vU w (.cells #[.int .i64 k] 22 (0,0)) (.cells #[.int .i64 0,.string ⟨#[]⟩,.bool false,.int .i64 0,.bool false,.string ⟨#[]⟩] 55 (0,0));have J:=X4 (fun r=>decide (r.1=k)) w.heap.size D fun r W hW=>xG k w.heap.size r W ((yU hW (by omega)).trans (zL M).1)
 have U:Hid (D.heap[w.heap.size+1]?=some (.cells #[.int .i64 0,.string ⟨#[]⟩,.bool false,.int .i64 0,.bool false,.string ⟨#[]⟩] 55 (0,0))∧Below w.heap.size w D∧D.heap.size=w.heap.size+2):=⟨A,h,o⟩;have z:=y.symm;clear y h o M A
 go_enter Tryz.func24,Tryz.ntmps24
 go_wp2_with fail
 refine J.mono ?_;clear J z;rintro e Q ⟨rfl,x⟩;obtain ⟨A,h,o⟩:=U.out;have E:Q.heap[w.heap.size+1]?=_:=(x.block _ (by omega)).trans A
 obtain ⟨Y,e1,X,e3,e4,Z,V⟩:=zq E;have N:Hid (findQ (fun r=>decide (r.1=k))=ofKind k):=rfl
 generalize findQ (fun r=>decide (r.1=k))=R at N ⊢
 obtain ⟨a,b,c,d,f,g⟩:=R;obtain ⟨I,H,O,G,K,L,-⟩:=zq (Zz E (.int .i64 a) (.string (za b)) (.bool c) (.int .i64 d) (.bool f) (.string (za g)));have S:Hid (Below w.heap.size w (yc Q (w.heap.size+1) (.int .i64 a) (.string (za b)) (.bool c) (.int .i64 d) (.bool f) (.string (za g)))):=ZA (Zs h x) (by omega) _ _ _ _ _ _
 clear A h o E x
 unfold yc at I H O G K L
 unfold wV
 simp only;go_wp2
 exact bodyPost_ret (v:=.agg #[.int .i64 a,.string (za b),.bool c,.int .i64 d,.bool f,.string (za g)]) (by simp [results,Tryz.results24,go_sem,I,H,O,G,K,L]) rfl ⟨by rw [←N.out];rfl,S.out⟩
theorem uu (w:World) (A B C:Obj):Below w.heap.size w (((w.alloc A).alloc B).alloc C):=(((Below.refl _ w).alloc (Nat.le_refl _) _).alloc (by simp) _).alloc (by simp;omega) _
theorem V1 (w:World) (A B C:Obj) (j:Nat) (v:Value):Below w.heap.size w ((((w.alloc A).alloc B).alloc C).setCell ⟨w.heap.size+1+1,j,none⟩ v):=(uu w A B C).setCell (by simp;omega) _
theorem V2 (w:World) (A B C:Obj) (j i:Nat) (v u:Value):Below w.heap.size w (((((w.alloc A).alloc B).alloc C).setCell ⟨w.heap.size+1+1,j,none⟩ v).setCell ⟨w.heap.size+1+1,i,none⟩ u):=(V1 w A B C j v).setCell (by simp;omega) _
theorem Xi (r:Wq) (k n:Int) (s:List UInt8) (w:World) :
  Calls Tryz.prog 31 #[wV r,ZS k n s] w fun e w'=>e=.returned (.bool (decide (k=r.1∧(r.2.2.1=false→n=0)∧(r.2.2.2.2.1=false→s=[]))))∧Below w.heap.size w w':=by
 obtain ⟨a,b,c,d,f,g⟩:=r
 unfold wV ZS
 simp only
 cases c <;> cases f <;> (go_enter Tryz.func31,Tryz.ntmps31;go_wp2)
 all_goals
  go_ret
  exact ⟨by simp_all,by first | exact uu _ _ _ _ | exact V1 _ _ _ _ _ _ | exact V2 _ _ _ _ _ _ _ _⟩
theorem vV (r:Wq) (n:Int) (w:World) :
  Calls Tryz.prog 32 #[wV r,.int .i64 n] w fun e w'=>e=.returned (.bool (decide (r.2.2.1=true→r.2.2.2.1≤n∧n≤4294967296)))∧Below w.heap.size w w':=by
 obtain ⟨a,b,c,d,f,g⟩:=r
 unfold wV
 simp only
 cases c <;> (go_enter Tryz.func32,Tryz.ntmps32;go_wp2)
 all_goals
  go_ret
  refine ⟨?_,(Below.refl _ w).alloc (Nat.le_refl _) _⟩
  first | (simp_all;done) | (simp_all;omega)
end Go.Proofs.YtmbofhpmockmbaaGreatDoor
