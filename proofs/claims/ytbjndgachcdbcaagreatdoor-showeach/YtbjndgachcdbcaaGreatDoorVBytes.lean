import Derived.Test.YtbjndgachcdbcaaGreatDoorVLines
namespace Go.Proofs.YtbjndgachcdbcaaGreatDoor
open Go.RowKit Go.Shelf
set_option maxHeartbeats 16000000
set_option maxRecDepth 100000
theorem Ym (l:List (List UInt8)) {i:Nat} (h:i<l.length):ze (l.take (i+1))=ze (l.take i)++l[i]++[10]:=by
 have e:l.take i++[l[i]]=l.take (i+1):=List.take_append_getElem h;rw [←e,zQ,ZX,List.append_assoc]
theorem YY (l:List (List UInt8)) (h:∀s∈l,s.length≤200):(ze l).length≤l.length*201:=by
 induction l with
 | nil=>simp [ze]
 | cons x t ih =>
  have b:=ih fun s hs=>h s (by simp [hs])
  have c:=h x (by simp)
  rw [show ze (x::t)=(x++[10])++ze t from rfl,List.length_append,List.length_append,List.length_cons]
  simp
  omega
theorem yO (os:List Ob) (sel:Int) (p:List UInt8→Prop) (hp:∀l,p (lineB l)):∀(k:Nat) (l:List Fr),∀s∈framesB os sel k l,p s
 | _,[],s,h=>by cases h
 | k,f::t,s,h=>by
  unfold framesB at h
  rcases List.mem_cons.1 h with rfl | h
  ·exact hp _
  ·exact yO os sel p hp (k+1) t s h
theorem Yn (os:List Ob) (v:Vw) (p:List UInt8→Prop) (hp:∀l,p (lineB l)):∀s∈linesB os v,p s:=by
 intro s h
 unfold linesB at h
 simp only [List.mem_append,List.mem_singleton,List.mem_map] at h;rcases h with (((rfl | h) | ⟨x,_,rfl⟩) | ⟨x,_,rfl⟩) | rfl
 ·exact hp _
 ·exact yO os v.sel p hp _ _ s h
 ·exact hp _
 ·exact hp _
 ·exact hp _
theorem YZ (os:List Ob) (v:Vw):(linesB os v).length=2+v.look.frames.length+v.stops.length+(yM v.look.out).length:=by
 unfold linesB
 simp only [List.length_append,List.length_map,ZB,List.length_reverse,List.length_singleton];omega
theorem Vr {S T:Nat→Prop} {most:Nat} {os:List Ob} {h:Nat} {vo vc:Value} (v:Vw) (vf vs:Value) (w:World) (H:zw S w most os h vo vc) (hv:zL T w v vf vs) (A:Z9 v) (ht:Yr w) :
  Calls Tryz.prog 14 #[ut vf vs v,.pointer (some ⟨h,0,none⟩)] w fun e w'=>(Y8 os.length v=false∧e=.returned (.tuple #[.slice none 0 0,.int .i64 2])∧Below w.heap.size w w')∨(Y8 os.length v=true∧∃r,e=.returned (.tuple #[r,.int .i64 0])∧zg w.heap.size w' r (ze (linesB os v))∧Below w.heap.size w w'):=by
 obtain ⟨w1,af,z,aq,h0⟩:=Z6 w (.cells #[.int .i64 v.look.pos,.int .i64 v.look.status,.int .i64 v.look.fault,vf,.string (za v.look.out),.int .i64 v.sel,vs,.int .i64 v.last.err,.int .i64 v.last.n,.string (za v.last.says)] 35);have U:Hid (w1=w.alloc (.cells #[.int .i64 v.look.pos,.int .i64 v.look.status,.int .i64 v.look.fault,vf,.string (za v.look.out),.int .i64 v.sel,vs,.int .i64 v.last.err,.int .i64 v.last.n,.string (za v.last.says)] 35)):=af;have D:Hid (Below w.heap.size w w1):=z;have cl:=Yc v vf vs w1 (H.below z) (hv.below z) A (ht.below z (Nat.le_refl _));obtain ⟨p0,p1,p2,p3,p4,p5,p6,p7,p8,p9⟩:=zo h0;obtain ⟨M,hM⟩:∃M,M=Y8 os.length v:=⟨_,rfl⟩
 have F:Hid ((linesB os v).length≤2097160):=by
  have h1:=A.nframes;have h2:=A.nstops;have h3:=XG v.look.out;show _≤_
  rw [YZ];omega
 have m:Hid (∀s∈linesB os v,s.length≤200):=Yn os v (fun s=>s.length≤200) xp
 obtain ⟨L,hL⟩:∃L,L=linesB os v:=⟨_,rfl⟩;rw [←hL] at F m;rw [←hM,←hL] at cl ⊢;obtain ⟨⟨ay,ah,ak,ag,aB⟩,aE,ap,⟨az,n,av⟩⟩:=v;simp only at p0 p1 p2 p3 p4 p5 p6 p7 p8 p9 U;obtain ⟨bf,cf,rfl,-⟩:=hv.frames.at;obtain ⟨bs,cs,rfl,-⟩:=hv.stops.at;clear af z h0 aq H hv A ht hM hL
 go_enter Tryz.func14,Tryz.ntmps14
 go_wp2_with fail
 rw [←U.out];refine cl.mono ?_;clear cl p0 p1 p2 p3 p4 p5 p6 p7 p8 p9;rintro e c (⟨rfl,rfl,ab⟩ | ⟨rfl,r,rfl,B⟩)
 ·have E:Hid (Below w.heap.size w c):=D.out.trans (ab.mono D.out.size)
  clear ab;go_wp2
  go_loopw [8,19] (fun vb vi wr=>vb=.slice none 0 0∧vi=.int .i64 0∧wr=c) (fun _ _ _=>0)
  case atStart=>exact ⟨rfl,rfl,rfl⟩
  case round =>
   obtain ⟨rfl,rfl,rfl⟩:=hrel;go_wp2
   go_ret2
   exact ⟨rfl,E.out⟩
 ·have HJ:Hid (zl w1.heap.size w1 c r L):=B
  obtain ⟨bl,cl,rfl,ax,aC,W⟩:=B.in.at
  have an:Hid (∀i (hi:i<L.length),∃b o,bl=some ⟨b,o,none⟩∧w1.heap.size≤b∧b<c.heap.size∧Y6 c b (o+i*1) L[i]):=W
  have E:Hid (Below w.heap.size w c):=D.out.trans (B.below.mono D.out.size);have aw:=F.out;have G:=E.out.size;clear B W;go_wp2
  go_loopw [8,19] (fun vb vi wr=>∃i:Nat,i≤L.length∧vi=.int .i64 (i:Int)∧zg c.heap.size wr vb (ze (L.take i))∧Below c.heap.size c wr) (fun _ vi _=>L.length-(intOf vi).toNat)
  case atStart=>exact ⟨0,Nat.zero_le _,rfl,World.ownsRow_nil _ _ _ _,Below.refl _ _⟩
  case round =>
   obtain ⟨i,hi,rfl,ad,O⟩:=hrel;have Y:Hid (zg c.heap.size wr u8 (ze (L.take i))):=ad;have HB:Hid (Below c.heap.size c wr):=O;have aA:=O.size;clear ad O
   by_cases hlt:i<L.length
   ·have am:(i:Int)<L.length:=by omega
    obtain ⟨b,o,rfl,-,aj,hc⟩:=an.out i hlt
    have y:wr.cell? ⟨b,o+i,none⟩=some (.string (za L[i])):=by
     have:=(zb (g:=b) (j:=o+i*1) HB.out aj).trans hc
     simpa only [Nat.mul_one] using this
    have HN:Hid (ze (L.take (i+1))=ze (L.take i)++L[i]++[10]):=Ym L hlt;have ai:=m.out _ (List.getElem_mem hlt);have K:=YY (L.take i) fun s A=>m.out s (List.mem_of_mem_take A)
    rw [List.length_take] at K;obtain ⟨s,A⟩:∃s,s=L[i]:=⟨_,rfl⟩;rw [←A] at y HN ai;obtain ⟨P,hP⟩:∃P,P=ze (L.take i):=⟨_,rfl⟩;rw [←hP] at Y HN K;clear hc A hP;have aD:P.length≤500000000:=by omega
    clear K
    go_upto_region 6 with fail
    clear y
    go_upto_region 7 with (at_builtin;refine zf rfl _ _ rfl c.heap.size _ P rfl Y.out.own s rfl (by omega) (by omega) ?_;intro v5 w5 X aa)
    have Z:Hid (Below c.heap.size c w5):=HB.out.grown aa (by omega) (fun q hq=>by have:=Y.out.lt q hq;omega)
    have ae:Hid (zg c.heap.size w5 v5 (P++s)):=X;have au:=Z.out.size;clear X aa
    have J:ye (w5.alloc (.cells #[.int .u8 10] 5)) (.slice (some ⟨w5.heap.size,0,none⟩) 1 1) [10]:=by
     refine ⟨_,1,rfl,by simp,by simp,by unfold maxLen;omega,fun a ha j u hj=>?_⟩
     cases ha
     exact ZV w5 [.int .u8 10] 5 j u hj
    have V:Hid _:=J;clear J
    go_wp2_with (at_builtin;refine Yq rfl _ _ rfl c.heap.size _ (P++s) rfl (ae.out.alloc _).own _ [10] rfl V.out (by simp;omega) (by simp;omega) ?_;intro v6 w6 R)
    have al:Hid (Below c.heap.size c w6):=(Z.out.alloc au _).trans (R.low ((ae.out.alloc _).own) (by simp;omega))
    have ar:Hid (zg c.heap.size w6 v6 (P++s++[10])):=R.row;clear R;go_wp2
    exact ⟨⟨i+1,by omega,by go_num,by rw [HN.out];exact ar.out,al.out⟩,by simp [intOf];omega⟩
   ·have am:¬ (i:Int)<L.length:=by omega
    obtain rfl:i=L.length:=by omega
    rw [List.take_length] at Y;have I:=VI Y.out.own G;have HF:Hid (zg w.heap.size wr u8 (ze L)):=I;have ao:Hid (Below w.heap.size w wr):=E.out.trans (HB.out.mono G);clear I;go_wp2
    go_ret2
    exact ⟨_,rfl,HF.out,ao.out⟩
end Go.Proofs.YtbjndgachcdbcaaGreatDoor
