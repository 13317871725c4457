import Derived.Test.YtmbofhpmockmbaaGreatDoorQLives
namespace Go.Proofs.YtmbofhpmockmbaaGreatDoor
open Go.RowKit Go.Shelf
set_option maxHeartbeats 16000000
set_option maxRecDepth 100000
theorem VC {k n:Int} {s:List UInt8} (h:ZG ZN k n s):(Zt k n s).length≤10000:=by
 obtain ⟨A,e,o⟩:=yH k;have D:=yS h
 have z:(if (ofKind k).2.2.1=true then 32::Lib.itoa n else []).length≤22:=by
  by_cases hc:(ofKind k).2.2.1=true
  ·rw [if_pos hc]
   obtain ⟨a,b⟩:=h.2.2.2.1 hc
   have:=Lib.itoa_length_le n (by omega) (by omega)
   simp only [List.length_cons];omega
  ·rw [if_neg hc];simp
 have x:(if s≠[]∧(ofKind k).2.2.2.2.2≠[] then 32::(ofKind k).2.2.2.2.2 else []).length≤21:=by
  split <;> simp only [List.length_cons,List.length_nil] <;> omega
 have y:(if s≠[] then 32::s else []).length≤256:=by
  split <;> simp only [List.length_cons,List.length_nil] <;> omega
 unfold Zt
 simp only [List.length_append];omega
theorem vB (k n:Int) (s:List UInt8) (_hk:-9223372036854775808≤k∧k≤9223372036854775807) (_hn:-9223372036854775808≤n∧n≤9223372036854775807) (_hs:s.length≤1048576) (l:List UInt8) (hl:l.length≤1048576) (w:World) (hQ:QT w) :
  Calls Tryz.prog 6 #[ZS k n s,.string (za l)] w fun e w'=>e=.returned (.bool true)∧Below w.heap.size w w':=by
 have HQ:Hid (QT w):=hQ;have HL:Hid (l.length≤10000000):=by show _≤_;omega
 obtain ⟨w1,aa,Z,ag,p1⟩:=yd w (.cells #[.int .i64 k,.int .i64 n,.string (za s)] 24 (0,0));have HP:Hid (w1.heap[w.heap.size]?=some (.cells #[.int .i64 k,.int .i64 n,.string (za s)] 24 (0,0))∧Below w.heap.size w w1):=⟨p1,Z⟩;have cp:=yb k n s w1 (hQ.below Z).1;obtain ⟨a0,a1,a2,-⟩:=zp p1;have ab:=aa.symm
 unfold ZS at cp ⊢
 clear hQ hl aa Z ag p1
 go_enter Tryz.func6,Tryz.ntmps6
 go_wp2_with fail
 refine cp.mono ?_;clear cp ab a0 a1 a2;rintro e w2 ⟨V,Y⟩;have D:Hid (w2.heap[w.heap.size]?=some (.cells #[.int .i64 k,.int .i64 n,.string (za s)] 24 (0,0))∧Below w.heap.size w w2):=⟨(Y.block _ (yq HP.out.1)).trans HP.out.1,Zs HP.out.2 Y⟩
 obtain ⟨T,E,rfl,af⟩:∃(T:List UInt8) (E:Int),e=.returned (.tuple #[.string (za T),.int .i64 E])∧((ZG ZN k n s∧T=Zt k n s∧E=0)∨(¬ ZG ZN k n s∧T=[]∧E=2)):=by
  rcases V with ⟨h,rfl⟩ | ⟨h,rfl⟩
  ·exact ⟨_,0,rfl,.inl ⟨h,rfl,rfl⟩⟩
  ·exact ⟨[],2,rfl,.inr ⟨h,rfl,rfl⟩⟩
 have W:Hid ((ZG ZN k n s∧T=Zt k n s∧E=0)∨(¬ ZG ZN k n s∧T=[]∧E=2)):=af;clear V Y af HP
 go_upto_if 19 with fail
 go_cut [20] (fun _ wx=>Below w.heap.size w wx)
 case first =>
  rcases W.out with ⟨L,hT,rfl⟩ | ⟨M,rfl,rfl⟩
  ·have O:Hid (ZG ZN k n s):=L
   have R:=VC L;rw [←hT] at R;have cq:=yC T w2 (by omega) (HQ.out.below D.out.2)
   have HC:Hid (zB T=(k,n,s)∧Zt k n s=T):=⟨by rw [hT];exact Vp VB L,hT.symm⟩
   clear W L hT R;go_wp2_with fail
   refine cq.mono ?_;clear cq;rintro e w3 ⟨⟨k',n',s',Q,h2,h3,rfl⟩ | ⟨Q,rfl⟩,z⟩
   ·rw [HC.out.1] at Q
    simp only [Prod.mk.injEq] at Q;obtain ⟨rfl,rfl,rfl⟩:=Q;obtain ⟨N,y,x,J,S⟩:=yd w3 (.cells #[.int .i64 k,.int .i64 n,.string (za s)] 24 (0,0));have G:=Zs z x;have o:Hid (Below w.heap.size w N):=Zs D.out.2 G;obtain ⟨a0,a1,a2,-⟩:=zp ((G.block _ (yq D.out.1)).trans D.out.1);obtain ⟨q0,q1,q2,-⟩:=zp S;have U:=Y2 k n s N (HQ.out.below o.out).1
    unfold ZS at U ⊢
    have H:=y.symm;clear h2 h3 z x y J S G;go_wp2_with fail
    refine U.mono ?_;clear U H q0 q1 q2 a0 a1 a2;rintro e w5 ⟨⟨-,rfl⟩ | ⟨M,-⟩,A⟩
    ·have K:Hid (Below w.heap.size w w5):=Zs o.out A
     clear A;go_wp2_with fail
     go_meet
     exact K.out
    ·exact absurd O.out M
   ·exact absurd ⟨O.out,HC.out.2⟩ (Q _ _ _ HC.out.1)
  ·clear W
   go_wp2_with fail
   go_meet
   exact D.out.2
 case rest =>
  have ae:Hid (Below w.heap.size w wc):=hcut;have cq:=yC l wc HL.out (HQ.out.below hcut);clear hcut;go_wp2_with fail
  refine cq.mono ?_;clear cq;rintro e w3 ⟨⟨k',n',s',Q,h2,h3,rfl⟩ | ⟨Q,rfl⟩,z⟩
  ·obtain ⟨N,y,x,J,S⟩:=yd w3 (.cells #[.int .i64 k',.int .i64 n',.string (za s')] 24 (0,0))
   have o:Hid (Below w.heap.size w N):=Zs ae.out (Zs z x);obtain ⟨q0,q1,q2,-⟩:=zp S;have U:=yb k' n' s' N (HQ.out.below o.out).1;rw [h3] at U;have O:Hid (ZG ZN k' n' s'):=h2
   unfold ZS at U ⊢
   have H:=y.symm;clear Q h2 h3 z x y J S;go_wp2_with fail
   refine U.mono ?_;clear U H q0 q1 q2;rintro e w5 ⟨⟨-,rfl⟩ | ⟨M,-⟩,A⟩
   ·have K:Hid (Below w.heap.size w w5):=Zs o.out A
    have cl:=y2 w5 (HQ.out.below K.out);clear A;go_wp2_with fail
    refine cl.mono ?_;clear cl;rintro e w6 ⟨rfl,I⟩;have X:Hid (Below w.heap.size w w6):=Zs K.out I;clear I;go_wp2
    go_ret
    exact ⟨rfl,X.out⟩
   ·exact absurd O.out M
  ·obtain ⟨N,y,x,J,S⟩:=yd w3 (.cells #[.int .i64 0,.int .i64 0,.string ⟨#[]⟩] 24 (0,0))
   have o:Hid (Below w.heap.size w N):=Zs ae.out (Zs z x);obtain ⟨q0,q1,q2,-⟩:=zp S;have cl:=y2 N (HQ.out.below o.out);have ad:Hid (N=w3.alloc (.cells #[.int .i64 0,.int .i64 0,.string ⟨#[]⟩] 24 (0,0))):=y;clear Q z x y J S
   unfold ZS
   go_upto_region 9 with fail
   rw [←ad.out];clear ad;go_wp2_with fail
   refine cl.mono ?_;clear cl q0 q1 q2;rintro e w6 ⟨rfl,I⟩;have X:Hid (Below w.heap.size w w6):=Zs o.out I;clear I;go_wp2
   go_ret
   exact ⟨rfl,X.out⟩
end Go.Proofs.YtmbofhpmockmbaaGreatDoor
