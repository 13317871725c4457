import Derived.Test.YtmbofhpmockmbaaGreatDoorQLives
namespace Go.Proofs.YtmbofhpmockmbaaGreatDoor
open Go.RowKit Go.Shelf
set_option maxHeartbeats 16000000
set_option maxRecDepth 100000
theorem VC {k n:Int} {s:List UInt8} (h:ZG ZN k n s):(Zt k n s).length≤10000:=by
 obtain ⟨D,e,y⟩:=yH k;have A:=yS h
 have o:(if (ofKind k).2.2.1=true then 32::Lib.itoa n else []).length≤22:=by
  by_cases hc:(ofKind k).2.2.1=true
  ·rw [if_pos hc]
   obtain ⟨a,b⟩:=h.2.2.2.1 hc
   have:=Lib.itoa_length_le n (by omega) (by omega)
   simp only [List.length_cons];omega
  ·rw [if_neg hc];simp
 have x:(if s≠[]∧(ofKind k).2.2.2.2.2≠[] then 32::(ofKind k).2.2.2.2.2 else []).length≤21:=by
  split <;> simp only [List.length_cons,List.length_nil] <;> omega
 have z:(if s≠[] then 32::s else []).length≤256:=by
  split <;> simp only [List.length_cons,List.length_nil] <;> omega
 unfold Zt
 simp only [List.length_append];omega
theorem vB (k n:Int) (s:List UInt8) (_hk:-9223372036854775808≤k∧k≤9223372036854775807) (_hn:-9223372036854775808≤n∧n≤9223372036854775807) (_hs:s.length≤1048576) (l:List UInt8) (hl:l.length≤1048576) (w:World) (hQ:QT w) :
  Calls Tryz.prog 6 #[ZS k n s,.string (za l)] w fun e w'=>e=.returned (.bool true)∧Below w.heap.size w w':=by
 have HQ:Hid (QT w):=hQ;have HL:Hid (l.length≤10000000):=by show _≤_;omega
 obtain ⟨w1,aa,Y,ag,p1⟩:=yd w (.cells #[.int .i64 k,.int .i64 n,.string (za s)] 24 (0,0));have HP:Hid (w1.heap[w.heap.size]?=some (.cells #[.int .i64 k,.int .i64 n,.string (za s)] 24 (0,0))∧Below w.heap.size w w1):=⟨p1,Y⟩;have cp:=yb k n s w1 (hQ.below Y).1;obtain ⟨a0,a1,a2,-⟩:=zp p1;have ab:=aa.symm
 unfold ZS at cp ⊢
 clear hQ hl aa Y ag p1
 go_enter Tryz.func6,Tryz.ntmps6
 go_wp2_with fail
 refine cp.mono ?_;clear cp ab a0 a1 a2;rintro e w2 ⟨U,X⟩;have H:Hid (w2.heap[w.heap.size]?=some (.cells #[.int .i64 k,.int .i64 n,.string (za s)] 24 (0,0))∧Below w.heap.size w w2):=⟨(X.block _ (yq HP.out.1)).trans HP.out.1,Zs HP.out.2 X⟩
 obtain ⟨T,E,rfl,ad⟩:∃(T:List UInt8) (E:Int),e=.returned (.tuple #[.string (za T),.int .i64 E])∧((ZG ZN k n s∧T=Zt k n s∧E=0)∨(¬ ZG ZN k n s∧T=[]∧E=2)):=by
  rcases U with ⟨h,rfl⟩ | ⟨h,rfl⟩
  ·exact ⟨_,0,rfl,.inl ⟨h,rfl,rfl⟩⟩
  ·exact ⟨[],2,rfl,.inr ⟨h,rfl,rfl⟩⟩
 have W:Hid ((ZG ZN k n s∧T=Zt k n s∧E=0)∨(¬ ZG ZN k n s∧T=[]∧E=2)):=ad;clear U X ad HP
 go_upto_if 19 with fail
 go_cut [20] (fun _ wx=>Below w.heap.size w wx)
 case first =>
  rcases W.out with ⟨N,hT,rfl⟩ | ⟨O,rfl,rfl⟩
  ·have L:Hid (ZG ZN k n s):=N
   have R:=VC N;rw [←hT] at R;have cq:=yC T w2 (by omega) (HQ.out.below H.out.2)
   have HC:Hid (zB T=(k,n,s)∧Zt k n s=T):=⟨by rw [hT];exact Vp VB N,hT.symm⟩
   clear W N hT R;go_wp2_with fail
   refine cq.mono ?_;clear cq;rintro e w3 ⟨⟨k',n',s',Q,h2,h3,rfl⟩ | ⟨Q,rfl⟩,z⟩
   ·rw [HC.out.1] at Q
    simp only [Prod.mk.injEq] at Q;obtain ⟨rfl,rfl,rfl⟩:=Q;obtain ⟨K,x,y,J,S⟩:=yd w3 (.cells #[.int .i64 k,.int .i64 n,.string (za s)] 24 (0,0));have I:=Zs z y;have o:Hid (Below w.heap.size w K):=Zs H.out.2 I;obtain ⟨a0,a1,a2,-⟩:=zp ((I.block _ (yq H.out.1)).trans H.out.1);obtain ⟨q0,q1,q2,-⟩:=zp S;have V:=Y2 k n s K (HQ.out.below o.out).1
    unfold ZS at V ⊢
    have G:=x.symm;clear h2 h3 z y x J S I;go_wp2_with fail
    refine V.mono ?_;clear V G q0 q1 q2 a0 a1 a2;rintro e w5 ⟨⟨-,rfl⟩ | ⟨O,-⟩,A⟩
    ·have M:Hid (Below w.heap.size w w5):=Zs o.out A
     clear A;go_wp2_with fail
     go_meet
     exact M.out
    ·exact absurd L.out O
   ·exact absurd ⟨L.out,HC.out.2⟩ (Q _ _ _ HC.out.1)
  ·clear W
   go_wp2_with fail
   go_meet
   exact H.out.2
 case rest =>
  have ae:Hid (Below w.heap.size w wc):=hcut;have cq:=yC l wc HL.out (HQ.out.below hcut);clear hcut;go_wp2_with fail
  refine cq.mono ?_;clear cq;rintro e w3 ⟨⟨k',n',s',Q,h2,h3,rfl⟩ | ⟨Q,rfl⟩,z⟩
  ·obtain ⟨K,x,y,J,S⟩:=yd w3 (.cells #[.int .i64 k',.int .i64 n',.string (za s')] 24 (0,0))
   have o:Hid (Below w.heap.size w K):=Zs ae.out (Zs z y);obtain ⟨q0,q1,q2,-⟩:=zp S;have V:=yb k' n' s' K (HQ.out.below o.out).1;rw [h3] at V;have L:Hid (ZG ZN k' n' s'):=h2
   unfold ZS at V ⊢
   have G:=x.symm;clear Q h2 h3 z y x J S;go_wp2_with fail
   refine V.mono ?_;clear V G q0 q1 q2;rintro e w5 ⟨⟨-,rfl⟩ | ⟨O,-⟩,A⟩
   ·have M:Hid (Below w.heap.size w w5):=Zs o.out A
    have cl:=y2 w5 (HQ.out.below M.out);clear A;go_wp2_with fail
    refine cl.mono ?_;clear cl;rintro e w6 ⟨rfl,D⟩;have Z:Hid (Below w.heap.size w w6):=Zs M.out D;clear D;go_wp2
    go_ret
    exact ⟨rfl,Z.out⟩
   ·exact absurd L.out O
  ·obtain ⟨K,x,y,J,S⟩:=yd w3 (.cells #[.int .i64 0,.int .i64 0,.string ⟨#[]⟩] 24 (0,0))
   have o:Hid (Below w.heap.size w K):=Zs ae.out (Zs z y);obtain ⟨q0,q1,q2,-⟩:=zp S;have cl:=y2 K (HQ.out.below o.out);have af:Hid (K=w3.alloc (.cells #[.int .i64 0,.int .i64 0,.string ⟨#[]⟩] 24 (0,0))):=x;clear Q z y x J S
   unfold ZS
   go_upto_region 9 with fail
   rw [←af.out];clear af;go_wp2_with fail
   refine cl.mono ?_;clear cl q0 q1 q2;rintro e w6 ⟨rfl,D⟩;have Z:Hid (Below w.heap.size w w6):=Zs o.out D;clear D;go_wp2
   go_ret
   exact ⟨rfl,Z.out⟩
end Go.Proofs.YtmbofhpmockmbaaGreatDoor
