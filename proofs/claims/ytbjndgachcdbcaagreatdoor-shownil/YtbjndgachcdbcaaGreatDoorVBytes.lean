import Derived.Test.YtbjndgachcdbcaaGreatDoorVLines
namespace Go.Proofs.YtbjndgachcdbcaaGreatDoor
open Go.RowKit Go.Shelf
set_option maxHeartbeats 16000000
set_option maxRecDepth 100000
theorem Y6 (v:Vw) (bf bs:Option Addr) (nf cf ns cs:Nat) (w:World) :
  Calls Tryz.prog 13 #[VO (.slice bf nf cf) (.slice bs ns cs) v,.pointer none] w fun e w'=>e=.returned (.tuple #[.slice none 0 0,.int .i64 1])∧Below w.heap.size w w':=by
 obtain ⟨⟨q,b,c,B,x⟩,m,F,⟨z,n,h⟩⟩:=v;obtain ⟨D,u,o,H,K,I⟩:=uj w (.cells #[.int .i64 q,.int .i64 b,.int .i64 c,.slice bf nf cf,.string (za x),.int .i64 m,.slice bs ns cs,.int .i64 z,.int .i64 n,.string (za h)] 35) (.cells #[.pointer none] 37);have E:Hid (D=(w.alloc (.cells #[.int .i64 q,.int .i64 b,.int .i64 c,.slice bf nf cf,.string (za x),.int .i64 m,.slice bs ns cs,.int .i64 z,.int .i64 n,.string (za h)] 35)).alloc (.cells #[.pointer none] 37)):=u;have A:Hid (Below w.heap.size w D):=o;have J:=vw D;have M:=zq I;clear u o K I H;refine (callsIn_wide (n:=5)).1 ?_;refine callsIn_of_wp_marks Tryz.func13 rfl trivial ?_ rfl;simp only [Tryz.ntmps13,List.size_toArray,List.length_cons,List.length_nil,Nat.reduceAdd,Nat.reduceSub,Array.replicate_succ,Array.replicate_zero,List.push_toArray,List.append_toArray,List.nil_append,List.cons_append];refine wpIn_wide.2 ?_;go_wp2_with fail
 rw [←E.out];refine J.mono ?_;clear J M;rintro e O ⟨rfl,y⟩;have G:Hid (Below w.heap.size w O):=A.out.trans (y.mono A.out.size);clear y;go_wp2_with fail
 exact ⟨_,results_tmp2 rfl _ _ _,rfl,G.out⟩
theorem vD (v:Vw) (bf bs:Option Addr) (nf cf ns cs:Nat) (w:World) :
  Calls Tryz.prog 14 #[VO (.slice bf nf cf) (.slice bs ns cs) v,.pointer none] w fun e w'=>e=.returned (.tuple #[.slice none 0 0,.int .i64 1])∧Below w.heap.size w w':=by
 obtain ⟨w1,o,b,y,H⟩:=Z5 w (.cells #[.int .i64 v.look.pos,.int .i64 v.look.status,.int .i64 v.look.fault,.slice bf nf cf,.string (za v.look.out),.int .i64 v.sel,.slice bs ns cs,.int .i64 v.last.err,.int .i64 v.last.n,.string (za v.last.says)] 35);have m:Hid (w1=w.alloc (.cells #[.int .i64 v.look.pos,.int .i64 v.look.status,.int .i64 v.look.fault,.slice bf nf cf,.string (za v.look.out),.int .i64 v.sel,.slice bs ns cs,.int .i64 v.last.err,.int .i64 v.last.n,.string (za v.last.says)] 35)):=o;have c:Hid (Below w.heap.size w w1):=b;have M:=Y6 v bf bs nf cf ns cs w1;obtain ⟨R,T,F,I,J,D,G,K,B,O⟩:=zu H;obtain ⟨⟨W,u,x,q,X⟩,V,z,⟨Y,n,U⟩⟩:=v;simp only at R T F I J D G K B O m;clear o b H y
 go_enter Tryz.func14,Tryz.ntmps14
 go_wp2_with fail
 rw [←m.out];refine M.mono ?_;clear M R T F I J D G K B O;rintro e E ⟨rfl,h⟩;have A:Hid (Below w.heap.size w E):=c.out.trans (h.mono c.out.size);clear h;go_wp2
 go_loopw [8,19] (fun vb vi wr=>vb=.slice none 0 0∧vi=.int .i64 0∧wr=E) (fun _ _ _=>0)
 case atStart=>exact ⟨rfl,rfl,rfl⟩
 case round =>
  obtain ⟨rfl,rfl,rfl⟩:=hrel;go_wp2
  go_ret2
  exact ⟨rfl,A.out⟩
end Go.Proofs.YtbjndgachcdbcaaGreatDoor
