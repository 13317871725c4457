import Derived.RangeFuncNested
import Derived.RangeFuncBound
import Derived.RangeFuncCalls
import Derived.RangeFuncLeaves
import Derived.RangeFuncBox
import Derived.Shelf.Abstract
import Derived.Shelf.RegionOpen
import Derived.WalkKit
import Derived.OwnWalkIn
import Derived.TacticsInMore
import Derived.LoopNIn
import Derived.LoopIn
import Derived.Test.YtbjndgachcdbcaaGreatDoorVModel
namespace Go.Proofs.YtbjndgachcdbcaaGreatDoor
open Go.RowKit Go.Shelf
set_option maxHeartbeats 16000000
set_option maxRecDepth 100000
attribute [local go_sem] Oper.semAt_some
theorem YI (v:Value) (base:Option Addr) (len cap:Nat) (hv:v=.slice base len cap) (w:World) :
  CallsIn Fence.wide 4 Tryz.prog 25 #[v] w fun e w'=>e=.returned (.func (.func 39) #[] #[.pointer (some ⟨w.heap.size,0,none⟩)])∧w'=w.alloc (.cells #[v] 27):=by
 subst hv;refine callsIn_of_wp Tryz.func25 rfl trivial ?_ rfl;simp only [Tryz.ntmps25,List.size_toArray,List.length_cons,List.length_nil,Nat.reduceAdd,Nat.reduceSub,Array.replicate_succ,Array.replicate_zero,List.push_toArray,List.append_toArray,List.nil_append,List.cons_append]
 gi_wp2
 go_ret
 exact ⟨rfl,rfl⟩
theorem vr (l Bn:Nat) (base:Option Addr) (cap:Nat) (frames:List Fr) (hlen:frames.length≤1048576) (J:Nat→World→Prop) (P:Nat→Value→Prop)
  (hJc:∀i W,J i W→W.cell? ⟨Bn,0,none⟩=some (.slice base frames.length cap))
  (hJe:∀i W,J i W→∀k (q:k<frames.length),∃b o u,base=some ⟨b,o,none⟩∧W.cell? ⟨b,o+k*3,none⟩=some (.string (za (frames[k]).fn))∧W.cell? ⟨b,o+k*3+1,none⟩=some (.int .i64 (frames[k]).line)∧W.cell? ⟨b,o+k*3+2,none⟩=some u∧P k u)
  (hY:∀i W u k (q:k<frames.length),frames.length=k+1+i→J i W→P k u→YieldAt Fence.wide (4-1) Tryz.prog l #[.int .i64 (i:Int),uB u (frames[k]).fn (frames[k]).line] W fun e W'=>e=.returned (.bool true)∧J (i+1) W')
  (W:World) (h0:J 0 W) :
  CallsIn Fence.wide 4 Tryz.prog 39 #[.func (.yield l) #[] #[],.pointer (some ⟨Bn,0,none⟩)] W fun e W'=>(∃u,e=.returned u)∧J frames.length W':=by
 have V:=hJc _ _ h0;refine callsIn_of_wp Tryz.func39 rfl trivial ?_ rfl;simp only [Tryz.ntmps39,List.size_toArray,List.length_cons,List.length_nil,Nat.reduceAdd,Nat.reduceSub,Array.replicate_succ,Array.replicate_zero,List.push_toArray,List.append_toArray,List.nil_append,List.cons_append]
 gi_wp2
 gi_loopw [6] (fun vi wr=>∃i:Nat,i≤frames.length∧vi=.int .i64 (i:Int)∧J i wr) (fun vi _=>frames.length-(intOf vi).toNat)
 case atStart=>exact ⟨0,Nat.zero_le _,rfl,h0⟩
 case round =>
  obtain ⟨i,Y,rfl,c⟩:=hrel;have y:=hJc _ _ c
  by_cases hlt:i<frames.length
  ·have z:(i:Int)<frames.length:=by omega
   obtain ⟨k,q⟩:∃k,frames.length=k+1+i:=⟨frames.length-1-i,by omega⟩
   have h:k<frames.length:=by omega
   obtain ⟨b,o,u,rfl,K,B,M,I⟩:=hJe _ _ c k h;obtain ⟨U,D,x,G,H,E⟩:=hY i wr u k h q c I;have X:Hid (frames.length=k+1+i):=q;have R:(frames.length:Int)-1-(i:Int)=(k:Int):=by omega
   have T:Hid (J i wr):=c;obtain ⟨f,F⟩:∃f,f=frames[k]:=⟨_,rfl⟩;rw [←F] at K B H;clear F c q I hJc hJe hY
   gi_wp2
   refine E.mono ?_;rintro e O ⟨rfl,m⟩;have A:Hid (J (i+1) O):=m;clear E H y K B M m
   gi_wp2
   go_roundw
   case rel=>exact ⟨i+1,by omega,by go_num,A.out⟩
   case measure=>simp [intOf];omega
  ·have z:¬ (i:Int)<frames.length:=by omega
   obtain rfl:i=frames.length:=by omega
   gi_wp2
   go_end0
   exact ⟨⟨_,rfl⟩,c⟩
theorem xl {n:Nat} {P:Program} {g:Operand} {ps:Array Tmp} {assign body:Code} {Q:Exit→Act→World→Prop} {a:Act} {w:World} {gf:Nat} {lb:Array Value}
  (hg:a.eval g=.func (.func gf) #[] lb) (eg:∀args w,(callFunc gf args).run P w=.ok (.enter gf args) w)
  (h:∀r0:Loop,r0.state=.ready→r0.pending=none→r0.tmps=a.tmps→r0.params=ps→r0.assign=assign→r0.body=body →
   CallsIn Fence.wide (n-1) P gf (#[.func (.yield (w.heap.size+1)) #[] #[]]++lb) ((w.alloc (.deferred (some []))).alloc (.loop r0)) (rangePost Fence.wide n P (w.heap.size+1) Q { a with defers:=[{ target:=.collected w.heap.size,args:=#[] }]++a.defers })) :
  (Code.rangeFunc g ps assign body).wpIn Fence.wide n P Q a w :=
 wpIn_rangeFunc fun fn _=>⟨_,_,_,{ target:=.fn (.func gf) lb,args:=#[.func (.yield (w.heap.size+1)) #[] #[]] },_,gf,_,_,run_enterLoop_outer fn a.tmps ps assign body,
  by simp only [resolve,hg];simp [go_sem];rfl,fun _ _=>trivial,by simp [invoke,go_sem,eg];rfl,(fun hd=>by cases hd),h _ rfl rfl rfl rfl rfl rfl⟩
end Go.Proofs.YtbjndgachcdbcaaGreatDoor
