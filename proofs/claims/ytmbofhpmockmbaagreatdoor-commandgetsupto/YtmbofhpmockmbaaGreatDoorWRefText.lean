import Derived.Test.YtmbofhpmockmbaaGreatDoorWRefReader2
import Derived.Lib.Strings
import Derived.Laws.DeepStrings4
namespace Go.Proofs.YtmbofhpmockmbaaGreatDoor
open Go.RowKit
set_option maxHeartbeats 16000000
set_option maxRecDepth 100000
theorem uj (l:List UInt8) (at0 er:Nat) (most:Int) (ha:at0≤l.length) :
  (∃a1 e1,e1≠0∧stepR (0:Int) at0 er (zU (l.drop at0) most)=(0,a1,e1)∧stepR ([]:List UInt8) at0 er (getT (l.drop at0) most)=([],a1,e1)) ∨
  (er=0∧∃n a1:Nat,stepR (0:Int) at0 er (zU (l.drop at0) most)=((n:Int),a1,0)∧a1≤l.length∧(l.length:Int)-(a1:Int)<(n:Int)∧stepR ([]:List UInt8) at0 er (getT (l.drop at0) most)=([],at0,3)) ∨
  (er=0∧∃n a1:Nat,stepR (0:Int) at0 er (zU (l.drop at0) most)=((n:Int),a1,0)∧a1+n≤l.length∧stepR ([]:List UInt8) at0 er (getT (l.drop at0) most)=((l.drop a1).take n,a1+n,0)):=by
 by_cases her:er≠0
 ·left
  exact ⟨at0,er,her,if_pos her,if_pos her⟩
 ·have E:er=0:=by omega
  subst E;obtain ⟨v,k,e,y⟩:∃v k e,zU (l.drop at0) most=(v,k,e):=⟨_,_,_,rfl⟩;have z:=xm (l.drop at0) most;have A:=yR (l.drop at0) most;rw [y] at z A;rw [List.length_drop] at z;simp only at z A;obtain ⟨n,rfl⟩:=Int.eq_ofNat_of_zero_le A
  have o:getT (l.drop at0) most=if e≠0 then ([],0,e) else if ((l.drop at0).length:Int)-(k:Int)<(n:Int) then ([],0,3) else (((l.drop at0).drop k).take n,k+n,0):=by
   unfold getT;rw [y];simp only [Int.toNat_natCast]
  by_cases he:e≠0
  ·left
   rw [if_pos he] at o;refine ⟨at0,e,he,?_,?_⟩
   ·rw [y];exact (if_neg her).trans (if_pos he)
   ·rw [o];exact (if_neg her).trans (if_pos he)
  ·right
   have G:e=0:=by omega
   subst G;rw [if_neg he] at o;have D:stepR (0:Int) at0 0 (zU (l.drop at0) most)=((n:Int),at0+k,0):=by rw [y];exact (if_neg her).trans (if_neg he)
   rw [List.length_drop] at o
   by_cases hlt:(((l.length-at0:Nat):Int)-(k:Int))<(n:Int)
   ·left
    rw [if_pos hlt] at o;refine ⟨rfl,n,at0+k,D,by omega,by omega,?_⟩
    rw [o];exact (if_neg her).trans (if_pos (by simp))
   ·right
    rw [if_neg hlt] at o;refine ⟨rfl,n,at0+k,D,by omega,?_⟩
    rw [o,List.drop_drop];refine ((if_neg her).trans (if_neg (by simp))).trans ?_
    simp only [Nat.add_assoc]
theorem Vf (w:World) (s:ByteArray) (a n:Nat) (h:a+n≤s.size) :
  (Instr.slice 9 (.string s) (some (.int .i64 (a:Int))) (some (.int .i64 ((a:Int)+(n:Int)))) none).run Tryz.prog w=.ok (.string ⟨((s.data.toList.drop a).take n).toArray⟩) w:=by
 rw [run_slice_string_if (P:=Tryz.prog) (w:=w) 9 s .i64 .i64 _ _ Tryz.underlying9,if_pos ⟨by omega,by omega⟩,if_pos ⟨by omega,by omega⟩]
 have y:((a:Int)+(n:Int)).toNat=a+n:=by omega
 have o:=Lib.extract_data s a (a+n);rw [show a+n-a=n by omega] at o
 rw [y,Int.toNat_natCast,←o]
theorem YI {w1:World} {b:Nat} {u0 u1 u2:Value} (h0:w1.cell? ⟨b,0,none⟩=some u0) (h1:w1.cell? ⟨b,1,none⟩=some u1) (h2:w1.cell? ⟨b,2,none⟩=some u2) (v0 v1 v2:Value) (o:Obj) :
  ((((w1.setCell ⟨b,0,none⟩ v0).setCell ⟨b,1,none⟩ v1).setCell ⟨b,2,none⟩ v2).alloc o).cell? ⟨b,0,none⟩=some v0 ∧
  ((((w1.setCell ⟨b,0,none⟩ v0).setCell ⟨b,1,none⟩ v1).setCell ⟨b,2,none⟩ v2).alloc o).cell? ⟨b,1,none⟩=some v1 ∧
  ((((w1.setCell ⟨b,0,none⟩ v0).setCell ⟨b,1,none⟩ v1).setCell ⟨b,2,none⟩ v2).alloc o).cell? ⟨b,2,none⟩=some v2:=by
 have ne:∀i j:Nat,i≠j→(⟨b,i,none⟩:Addr)≠⟨b,j,none⟩:=fun i j h e=>by cases e;exact h rfl
 refine ⟨Lib.cell?_alloc_some o ?_,Lib.cell?_alloc_some o ?_,Lib.cell?_alloc_some o ?_⟩
 ·rw [World.cell?_setCell_other (h:=ne 2 0 (by decide)),World.cell?_setCell_other (h:=ne 1 0 (by decide))]
  exact World.cell?_setCell_same _ _ _ h0
 ·rw [World.cell?_setCell_other (h:=ne 2 1 (by decide))]
  exact World.cell?_setCell_same (u:=u1) _ _ _ (by rw [World.cell?_setCell_other (h:=ne 0 1 (by decide))];exact h1)
 ·exact World.cell?_setCell_same (u:=u2) _ _ _ (by rw [World.cell?_setCell_other (h:=ne 1 2 (by decide)),World.cell?_setCell_other (h:=ne 0 2 (by decide))];exact h2)
theorem YJ {w w1:World} {x0 x1 x2 y0 y1 y2:Value} {t:TypeId} (hb:Below ((w.alloc (.cells #[x0,x1,x2] t)).alloc (.cells #[y0,y1,y2] t)).heap.size ((w.alloc (.cells #[x0,x1,x2] t)).alloc (.cells #[y0,y1,y2] t)) w1) :
  w1.cell? ⟨w.heap.size+1,0,none⟩=some y0∧w1.cell? ⟨w.heap.size+1,1,none⟩=some y1∧w1.cell? ⟨w.heap.size+1,2,none⟩=some y2:=by
 obtain ⟨o,y⟩:=Yh hb;refine ⟨?_,?_,?_⟩
 ·rw [o _ _ (by simp)];simp
 ·rw [o _ _ (by simp)];simp
 ·rw [o _ _ (by simp)];simp
theorem Yp {w w1:World} {x0 x1 x2 y0 y1 y2:Value} {t:TypeId} (hb:Below ((w.alloc (.cells #[x0,x1,x2] t)).alloc (.cells #[y0,y1,y2] t)).heap.size ((w.alloc (.cells #[x0,x1,x2] t)).alloc (.cells #[y0,y1,y2] t)) w1) :
  w1.cell? ⟨w.heap.size,0,none⟩=some x0∧w1.cell? ⟨w.heap.size,1,none⟩=some x1∧w1.cell? ⟨w.heap.size,2,none⟩=some x2:=by
 have y:=hb.size
 simp at y
 obtain ⟨o,z⟩:=Yh hb;refine ⟨?_,?_,?_⟩
 ·rw [o _ _ (by simp;omega)];simp
 ·rw [o _ _ (by simp;omega)];simp
 ·rw [o _ _ (by simp;omega)];simp
theorem XJ (s:ByteArray) (at0 er:Nat) (most:Int) (w:World) (hs:s.size≤9223372036854775000) (ha:at0≤s.size) :
  Calls Tryz.prog 44 #[.agg #[.string s,.int .i64 at0,.int .i64 er],.int .i64 most] w fun e w' =>
   e=.returned (.tuple #[.agg #[.string s,.int .i64 (stepR ([]:List UInt8) at0 er (getT (s.data.toList.drop at0) most)).2.1,.int .i64 (stepR ([]:List UInt8) at0 er (getT (s.data.toList.drop at0) most)).2.2],.string ⟨(stepR ([]:List UInt8) at0 er (getT (s.data.toList.drop at0) most)).1.toArray⟩])∧Below w.heap.size w w':=by
 have G:=fun wx=>xZ s at0 er most wx hs ha
 have H:=ZV s;rcases uj s.data.toList at0 er most (by rw [H];exact ha) with ⟨a1,e1,h1,h2,h3⟩ | ⟨rfl,n,a1,h2,g1,g2,h3⟩ | ⟨rfl,n,a1,h2,g1,h3⟩
 ·rw [h3]
  rw [h2] at G;have Q:Hid (∀wx:World,Calls Tryz.prog 66 #[.agg #[.string s,.int .i64 at0,.int .i64 er],.int .i64 most] wx fun e w'=>e=.returned (.tuple #[.agg #[.string s,.int .i64 a1,.int .i64 e1],.int .i64 0])∧Below wx.heap.size wx w'):=G
  have t0:((e1:Int) != 0)=true:=by rw [bne_iff_ne];omega
  clear h1 h2 h3 G H
  go_enter Tryz.func44,Tryz.ntmps44
  go_wp2_with fail
  refine (Q.out _).mono ?_;rintro T A ⟨rfl,D⟩;obtain ⟨Z,k1,k2⟩:=Yp D;obtain ⟨K,R,I⟩:=YJ D;have y:=YI K R I;have z:Hid (∀(v0 v1 v2:Value) (o:Obj),((((A.setCell ⟨w.heap.size+1,0,none⟩ v0).setCell ⟨w.heap.size+1,1,none⟩ v1).setCell ⟨w.heap.size+1,2,none⟩ v2).alloc o).cell? ⟨w.heap.size+1,0,none⟩=some v0∧((((A.setCell ⟨w.heap.size+1,0,none⟩ v0).setCell ⟨w.heap.size+1,1,none⟩ v1).setCell ⟨w.heap.size+1,2,none⟩ v2).alloc o).cell? ⟨w.heap.size+1,1,none⟩=some v1∧((((A.setCell ⟨w.heap.size+1,0,none⟩ v0).setCell ⟨w.heap.size+1,1,none⟩ v1).setCell ⟨w.heap.size+1,2,none⟩ v2).alloc o).cell? ⟨w.heap.size+1,2,none⟩=some v2):=y;clear y;obtain ⟨W,Y⟩:=Yh D;have M:w.heap.size<A.heap.size:=by have:=D.size;simp at this;omega
  have L:w.heap.size≠A.heap.size:=by omega
  have V:w.heap.size+1<A.heap.size:=by have:=D.size;simp at this;omega
  have O:Hid (Below w.heap.size w A):=(Z6 w _ _).trans (D.mono (by simp;omega))
  clear D;go_wp2
  refine bodyPost_ret (v:=.tuple #[.agg #[.string s,.int .i64 a1,.int .i64 e1],.string ⟨#[]⟩]) (by simp [results,Tryz.results44,go_sem,(z.out _ _ _ _).1,(z.out _ _ _ _).2.1,(z.out _ _ _ _).2.2]) rfl ⟨rfl,?_⟩
  exact (((O.out.setCell (by simp) _).setCell (by simp) _).setCell (by simp) _).alloc (by simp [World.setCell];omega) _
 ·rw [h3]
  rw [h2] at G;have Q:Hid (∀wx:World,Calls Tryz.prog 66 #[.agg #[.string s,.int .i64 at0,.int .i64 ((0:Nat):Int)],.int .i64 most] wx fun e w'=>e=.returned (.tuple #[.agg #[.string s,.int .i64 a1,.int .i64 ((0:Nat):Int)],.int .i64 n])∧Below wx.heap.size wx w'):=G
  rw [H] at g1 g2;clear h2 h3 G H
  go_enter Tryz.func44,Tryz.ntmps44
  go_wp2_with fail
  refine (Q.out _).mono ?_;rintro T A ⟨rfl,D⟩;obtain ⟨Z,k1,k2⟩:=Yp D;obtain ⟨K,R,I⟩:=YJ D;have y:=YI K R I;have z:Hid (∀(v0 v1 v2:Value) (o:Obj),((((A.setCell ⟨w.heap.size+1,0,none⟩ v0).setCell ⟨w.heap.size+1,1,none⟩ v1).setCell ⟨w.heap.size+1,2,none⟩ v2).alloc o).cell? ⟨w.heap.size+1,0,none⟩=some v0∧((((A.setCell ⟨w.heap.size+1,0,none⟩ v0).setCell ⟨w.heap.size+1,1,none⟩ v1).setCell ⟨w.heap.size+1,2,none⟩ v2).alloc o).cell? ⟨w.heap.size+1,1,none⟩=some v1∧((((A.setCell ⟨w.heap.size+1,0,none⟩ v0).setCell ⟨w.heap.size+1,1,none⟩ v1).setCell ⟨w.heap.size+1,2,none⟩ v2).alloc o).cell? ⟨w.heap.size+1,2,none⟩=some v2):=y;clear y;obtain ⟨W,Y⟩:=Yh D;have M:w.heap.size<A.heap.size:=by have:=D.size;simp at this;omega
  have L:w.heap.size≠A.heap.size:=by omega
  have V:w.heap.size+1<A.heap.size:=by have:=D.size;simp at this;omega
  have O:Hid (Below w.heap.size w A):=(Z6 w _ _).trans (D.mono (by simp;omega))
  clear D;go_wp2_with fail
  refine (yx s at0 0 3 _).mono ?_;rintro T w2 ⟨rfl,J⟩;have E:Below A.heap.size A w2:=(qh A _).trans (J.mono (by simp))
  obtain ⟨X,ab⟩:=Yh E;have aa:w.heap.size+1<w2.heap.size:=by have:=E.size;omega
  have U:Hid (Below w.heap.size w w2):=O.out.trans (E.mono (by omega))
  clear J E;go_wp2
  refine bodyPost_ret (v:=.tuple #[.agg #[.string s,.int .i64 at0,.int .i64 3],.string ⟨#[]⟩]) (by simp [results,Tryz.results44,go_sem,X,W,V]) rfl ⟨rfl,?_⟩
  exact ((U.out.setCell (by simp) _).setCell (by simp) _).setCell (by simp) _
 ·rw [h3]
  rw [h2] at G;have Q:Hid (∀wx:World,Calls Tryz.prog 66 #[.agg #[.string s,.int .i64 at0,.int .i64 ((0:Nat):Int)],.int .i64 most] wx fun e w'=>e=.returned (.tuple #[.agg #[.string s,.int .i64 a1,.int .i64 ((0:Nat):Int)],.int .i64 n])∧Below wx.heap.size wx w'):=G
  rw [H] at g1;have ad:=fun wx=>Vf wx s a1 n g1
  clear h2 h3 G H;generalize (s.data.toList.drop a1).take n=ts at *
  go_enter Tryz.func44,Tryz.ntmps44
  go_wp2_with fail
  refine (Q.out _).mono ?_;rintro T A ⟨rfl,D⟩;obtain ⟨Z,k1,k2⟩:=Yp D;obtain ⟨K,R,I⟩:=YJ D;have y:=YI K R I;have z:Hid (∀(v0 v1 v2:Value) (o:Obj),((((A.setCell ⟨w.heap.size+1,0,none⟩ v0).setCell ⟨w.heap.size+1,1,none⟩ v1).setCell ⟨w.heap.size+1,2,none⟩ v2).alloc o).cell? ⟨w.heap.size+1,0,none⟩=some v0∧((((A.setCell ⟨w.heap.size+1,0,none⟩ v0).setCell ⟨w.heap.size+1,1,none⟩ v1).setCell ⟨w.heap.size+1,2,none⟩ v2).alloc o).cell? ⟨w.heap.size+1,1,none⟩=some v1∧((((A.setCell ⟨w.heap.size+1,0,none⟩ v0).setCell ⟨w.heap.size+1,1,none⟩ v1).setCell ⟨w.heap.size+1,2,none⟩ v2).alloc o).cell? ⟨w.heap.size+1,2,none⟩=some v2):=y;clear y;obtain ⟨W,Y⟩:=Yh D;have M:w.heap.size<A.heap.size:=by have:=D.size;simp at this;omega
  have L:w.heap.size≠A.heap.size:=by omega
  have V:w.heap.size+1<A.heap.size:=by have:=D.size;simp at this;omega
  have O:Hid (Below w.heap.size w A):=(Z6 w _ _).trans (D.mono (by simp;omega))
  clear D;go_wp2
  refine bodyPost_ret (v:=.tuple #[.agg #[.string s,.int .i64 (a1+n:Int),.int .i64 0],.string ⟨ts.toArray⟩]) (by simp [results,Tryz.results44,go_sem,(z.out _ _ _ _).1,(z.out _ _ _ _).2.1,(z.out _ _ _ _).2.2]) rfl ⟨rfl,?_⟩
  exact (((O.out.setCell (by simp) _).setCell (by simp) _).setCell (by simp) _).alloc (by simp [World.setCell];omega) _
end Go.Proofs.YtmbofhpmockmbaaGreatDoor
