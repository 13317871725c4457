import Derived.Test.YtbjndgachcdbcaaGreatDoorVLines
namespace Go.Proofs.YtbjndgachcdbcaaGreatDoor
open Go.RowKit Go.Shelf
set_option maxHeartbeats 16000000
set_option maxRecDepth 100000
theorem Y6 (v:Vw) (bf bs:Option Addr) (nf cf ns cs:Nat) (w:World) :
  Calls Tryz.prog 13 #[VO (.slice bf nf cf) (.slice bs ns cs) v,.pointer none] w fun e w'=>e=.returned (.tuple #[.slice none 0 0,.int .i64 1])∧Below w.heap.size w w':=by
 obtain ⟨⟨x,b,c,B,q⟩,o,G,⟨m,n,h⟩⟩:=v;obtain ⟨E,z,u,H,O,I⟩:=uj w (.cells #[.int .i64 x,.int .i64 b,.int .i64 c,.slice bf nf cf,.string (za q),.int .i64 o,.slice bs ns cs,.int .i64 m,.int .i64 n,.string (za h)] 35) (.cells #[.pointer none] 37);have F:Hid (E=(w.alloc (.cells #[.int .i64 x,.int .i64 b,.int .i64 c,.slice bf nf cf,.string (za q),.int .i64 o,.slice bs ns cs,.int .i64 m,.int .i64 n,.string (za h)] 35)).alloc (.cells #[.pointer none] 37)):=z;have A:Hid (Below w.heap.size w E):=u;have J:=vw E;have K:=zq I;clear z u O I H;refine (callsIn_wide (n:=5)).1 ?_;refine callsIn_of_wp_marks Tryz.func13 rfl trivial ?_ rfl;simp only [Tryz.ntmps13,List.size_toArray,List.length_cons,List.length_nil,Nat.reduceAdd,Nat.reduceSub,Array.replicate_succ,Array.replicate_zero,List.push_toArray,List.append_toArray,List.nil_append,List.cons_append];refine wpIn_wide.2 ?_;go_wp2_with fail
 rw [←F.out];refine J.mono ?_;clear J K;rintro e M ⟨rfl,y⟩;have D:Hid (Below w.heap.size w M):=A.out.trans (y.mono A.out.size);clear y;go_wp2_with fail
 exact ⟨_,results_tmp2 rfl _ _ _,rfl,D.out⟩
theorem vD (v:Vw) (bf bs:Option Addr) (nf cf ns cs:Nat) (w:World) :
  Calls Tryz.prog 14 #[VO (.slice bf nf cf) (.slice bs ns cs) v,.pointer none] w fun e w'=>e=.returned (.tuple #[.slice none 0 0,.int .i64 1])∧Below w.heap.size w w':=by
 obtain ⟨w1,b,h,x,U⟩:=Z5 w (.cells #[.int .i64 v.look.pos,.int .i64 v.look.status,.int .i64 v.look.fault,.slice bf nf cf,.string (za v.look.out),.int .i64 v.sel,.slice bs ns cs,.int .i64 v.last.err,.int .i64 v.last.n,.string (za v.last.says)] 35);have o:Hid (w1=w.alloc (.cells #[.int .i64 v.look.pos,.int .i64 v.look.status,.int .i64 v.look.fault,.slice bf nf cf,.string (za v.look.out),.int .i64 v.sel,.slice bs ns cs,.int .i64 v.last.err,.int .i64 v.last.n,.string (za v.last.says)] 35)):=b;have c:Hid (Below w.heap.size w w1):=h;have K:=Y6 v bf bs nf cf ns cs w1;obtain ⟨G,B,R,D,J,O,E,M,T,H⟩:=zu U;obtain ⟨⟨Y,q,z,u,X⟩,W,y,⟨V,n,F⟩⟩:=v;simp only at G B R D J O E M T H o;clear b h U x
 go_enter Tryz.func14,Tryz.ntmps14
 go_wp2_with fail
 rw [←o.out];refine K.mono ?_;clear K G B R D J O E M T H;rintro e I ⟨rfl,m⟩;have A:Hid (Below w.heap.size w I):=c.out.trans (m.mono c.out.size);clear m;go_wp2
 go_loopw [8,19] (fun vb vi wr=>vb=.slice none 0 0∧vi=.int .i64 0∧wr=I) (fun _ _ _=>0)
 case atStart=>exact ⟨rfl,rfl,rfl⟩
 case round =>
  obtain ⟨rfl,rfl,rfl⟩:=hrel;go_wp2
  go_ret2
  exact ⟨rfl,A.out⟩
end Go.Proofs.YtbjndgachcdbcaaGreatDoor
