import Derived.Test.YtmbofhpmockmbaaGreatDoorWAll
import Derived.Lib.Strings
import Derived.Laws.DeepStrings4
import Derived.Test.YtmbofhpmockmbaaGreatDoorQMath
import Derived.Test.YtmbofhpmockmbaaGreatDoorShelf
import Derived.LoopN
import Derived.RangeFuncRecord
namespace Go.Proofs.YtmbofhpmockmbaaGreatDoor
open Go.RowKit
set_option maxHeartbeats 16000000
set_option maxRecDepth 100000
abbrev za (l:List UInt8):ByteArray:=⟨l.toArray⟩
theorem Zz (l:List UInt8):(za l).size=l.length:=rfl
theorem Ys (l:List UInt8) (a b:Nat):(za l).extract a b=za ((l.drop a).take (b-a)):=by
 have e:=Lib.extract_data (za l) a b;have h:(za l).data.toList=l:=rfl;rw [h] at e;show _=(⟨_⟩:ByteArray)
 rw [←e]
theorem YJ (w:World) (l:List UInt8) (a:Nat) (h:a≤l.length) :
  (Instr.slice 9 (.string (za l)) (some (.int .i64 (a:Int))) none none).run Tryz.prog w=.ok (.string (za (l.drop a))) w:=by
 rw [run_slice_string_from_if (P:=Tryz.prog) (w:=w) 9 (za l) .i64 _ Tryz.underlying9,if_pos ⟨by omega,by rw [Zz];omega⟩]
 rw [Int.toNat_natCast,Ys,Zz,List.take_of_length_le (by rw [List.length_drop];omega)]
theorem uP (w:World) (l:List UInt8) (b:Nat) (h:b≤l.length) :
  (Instr.slice 9 (.string (za l)) none (some (.int .i64 (b:Int))) none).run Tryz.prog w=.ok (.string (za (l.take b))) w:=by
 rw [run_slice_string_to_if (P:=Tryz.prog) (w:=w) 9 (za l) .i64 _ Tryz.underlying9,if_pos ⟨by omega,by rw [Zz];omega⟩]
 rw [Int.toNat_natCast,Ys,List.drop_zero,Nat.sub_zero]
theorem YW (w:World) (l:List UInt8) (a n:Nat) (h:a+n≤l.length) :
  (Instr.slice 9 (.string (za l)) (some (.int .i64 (a:Int))) (some (.int .i64 ((a:Int)+(n:Int)))) none).run Tryz.prog w=.ok (.string (za ((l.drop a).take n))) w:=by
 rw [run_slice_string_if (P:=Tryz.prog) (w:=w) 9 (za l) .i64 .i64 _ _ Tryz.underlying9,if_pos ⟨by omega,by rw [Zz];omega⟩,if_pos ⟨by omega,by omega⟩]
 have e:((a:Int)+(n:Int)).toNat=a+n:=by omega
 rw [e,Int.toNat_natCast,Ys,show a+n-a=n by omega]
end Go.Proofs.YtmbofhpmockmbaaGreatDoor
namespace Go.Proofs.YtmbofhpmockmbaaGreatDoor
open Go.RowKit Go.Shelf
set_option maxHeartbeats 16000000
set_option maxRecDepth 100000
theorem Z8 {w w2 w':World} (hb2:Below w.heap.size w w2) (h2:Below w2.heap.size w2 w'):Below w.heap.size w w':=hb2.trans (h2.mono hb2.size)
theorem xX {n:Nat} {w w':World} (h:Below n w w') {g j:Nat} (hg:g<n):w'.cell? ⟨g,j,none⟩=w.cell? ⟨g,j,none⟩:=World.cell?_of_block (h.block g hg)
theorem Yf {w:World} {N:Nat} {o:Obj} (h:w.heap[N]?=some o):N<w.heap.size:=(Array.getElem?_eq_some_iff.1 h).1
theorem Zm {w:World} {N:Nat} {x0:Value} {ty:TypeId} (h:w.heap[N]?=some (.cells #[x0] ty (0,0))) :
  w.cell? ⟨N,0,none⟩=some x0∧∀j,w.frozen? ⟨N,j,none⟩=false:=by
 exact ⟨by simp only [World.cell?,h];rfl,fun j=>by simp only [World.frozen?,h];simp⟩
theorem zv {w:World} {N:Nat} {x0 x1 x2:Value} {ty:TypeId} (h:w.heap[N]?=some (.cells #[x0,x1,x2] ty (0,0))) :
  w.cell? ⟨N,0,none⟩=some x0∧w.cell? ⟨N,1,none⟩=some x1∧w.cell? ⟨N,2,none⟩=some x2∧∀j,w.frozen? ⟨N,j,none⟩=false:=by
 exact ⟨by simp only [World.cell?,h];rfl,by simp only [World.cell?,h];rfl,by simp only [World.cell?,h];rfl,fun j=>by simp only [World.frozen?,h];simp⟩
theorem zE {w:World} {N:Nat} {x0 x1 x2 x3 x4 x5:Value} {ty:TypeId} (h:w.heap[N]?=some (.cells #[x0,x1,x2,x3,x4,x5] ty (0,0))) :
  w.cell? ⟨N,0,none⟩=some x0∧w.cell? ⟨N,1,none⟩=some x1∧w.cell? ⟨N,2,none⟩=some x2∧w.cell? ⟨N,3,none⟩=some x3∧w.cell? ⟨N,4,none⟩=some x4∧w.cell? ⟨N,5,none⟩=some x5∧∀j,w.frozen? ⟨N,j,none⟩=false:=by
 exact ⟨by simp only [World.cell?,h];rfl,by simp only [World.cell?,h];rfl,by simp only [World.cell?,h];rfl,by simp only [World.cell?,h];rfl,by simp only [World.cell?,h];rfl,by simp only [World.cell?,h];rfl,fun j=>by simp only [World.frozen?,h];simp⟩
def wC (r:Wq):List Value:=[.int .i64 r.1,.string (za r.2.1),.bool r.2.2.1,.int .i64 r.2.2.2.1,.bool r.2.2.2.2.1,.string (za r.2.2.2.2.2)]
def wV (r:Wq):Value:=.agg #[.int .i64 r.1,.string (za r.2.1),.bool r.2.2.1,.int .i64 r.2.2.2.1,.bool r.2.2.2.2.1,.string (za r.2.2.2.2.2)]
def yi (k n:Int) (s:List UInt8):Value:=.agg #[.int .i64 k,.int .i64 n,.string (za s)]
def zaJ:List Value:=tabQ.flatMap wC
def Yt:Obj:=.cells zaJ.toArray 55 (0,0)
theorem xu:tabQ.length=17:=rfl
theorem zan (i:Nat) (hi:i<tabQ.length):∀j (u:Value),(wC tabQ[i])[j]?=some u→zaJ[i*6+j]?=some u:=by
 have h:i=0∨i=1∨i=2∨i=3∨i=4∨i=5∨i=6∨i=7∨i=8∨i=9∨i=10∨i=11∨i=12∨i=13∨i=14∨i=15∨i=16:=by rw [xu] at hi;omega
 intro j u e
 have y:j<6:=by
  have:=(List.getElem?_eq_some_iff.1 e).1
  simpa [wC] using this
 have o:j=0∨j=1∨j=2∨j=3∨j=4∨j=5:=by omega
 rcases h with rfl | rfl | rfl | rfl | rfl | rfl | rfl | rfl | rfl | rfl | rfl | rfl | rfl | rfl | rfl | rfl | rfl <;> rcases o with rfl | rfl | rfl | rfl | rfl | rfl <;> exact e
theorem vI {w:World} {g:Nat} (h:w.heap[g]?=some Yt) (i:Nat) (hi:i<tabQ.length):∃k t hn le hs m,tabQ[i]=(k,t,hn,le,hs,m) ∧
  w.cell? ⟨g,i*6,none⟩=some (.int .i64 k)∧w.cell? ⟨g,i*6+1,none⟩=some (.string (za t))∧w.cell? ⟨g,i*6+2,none⟩=some (.bool hn)∧w.cell? ⟨g,i*6+3,none⟩=some (.int .i64 le)∧w.cell? ⟨g,i*6+4,none⟩=some (.bool hs)∧w.cell? ⟨g,i*6+5,none⟩=some (.string (za m)):=by
 have e:∀j u,(wC tabQ[i])[j]?=some u→w.cell? ⟨g,i*6+j,none⟩=some u:=fun j u hu=>by
  have:=zan i hi j u hu
  simp only [World.cell?,h,Yt]
  simpa using this
 refine ⟨tabQ[i].1,tabQ[i].2.1,tabQ[i].2.2.1,tabQ[i].2.2.2.1,tabQ[i].2.2.2.2.1,tabQ[i].2.2.2.2.2,rfl,e 0 _ rfl,e 1 _ rfl,e 2 _ rfl,e 3 _ rfl,e 4 _ rfl,e 5 _ rfl⟩
theorem vJ {p:Wq→Bool} {i:Nat} (hi:i<tabQ.length) (hno:∀j (h:j<tabQ.length),j<i→p tabQ[j]=false) (hp:p tabQ[i]=true):findQ p=tabQ[i]:=by
 unfold findQ
 have:tabQ.find? p=some tabQ[i]:=by
  rw [List.find?_eq_some_iff_getElem];exact ⟨hp,i,hi,rfl,fun j hj=>by simpa using hno j (by omega) hj⟩
 rw [this];rfl
theorem Xw {p:Wq→Bool} (hno:∀j (h:j<tabQ.length),p tabQ[j]=false):findQ p=yT:=by
 unfold findQ
 have:tabQ.find? p=none:=by
  rw [List.find?_eq_none];intro x e;obtain ⟨j,o,rfl⟩:=List.mem_iff_getElem.1 e
  simpa using hno j o
 rw [this];rfl
theorem xH {w:World} {b:Nat} {cs:Array Value} {ty:TypeId} {fz:Nat × Nat} (h:w.heap[b]?=some (.cells cs ty fz)) {j:Nat} (v:Value):(w.setCell ⟨b,j,none⟩ v).heap[b]?=some (.cells (cs.setIfInBounds j v) ty fz):=by
 unfold World.setCell
 simp [Array.getElem?_modify,h]
def xY (w:World) (N:Nat) (a b c:Value):World:=((w.setCell ⟨N,0,none⟩ a).setCell ⟨N,1,none⟩ b).setCell ⟨N,2,none⟩ c
def YD (w:World) (N:Nat) (a b c d e f:Value):World:=(((((w.setCell ⟨N,0,none⟩ a).setCell ⟨N,1,none⟩ b).setCell ⟨N,2,none⟩ c).setCell ⟨N,3,none⟩ d).setCell ⟨N,4,none⟩ e).setCell ⟨N,5,none⟩ f
theorem YK {w:World} {N:Nat} {x0 x1 x2:Value} {ty:TypeId} (h:w.heap[N]?=some (.cells #[x0,x1,x2] ty (0,0))) (a b c:Value):(xY w N a b c).heap[N]?=some (.cells #[a,b,c] ty (0,0)) :=
 xH (xH (xH h a) b) c
theorem yq {w:World} {N:Nat} {x0 x1 x2 x3 x4 x5:Value} {ty:TypeId} (h:w.heap[N]?=some (.cells #[x0,x1,x2,x3,x4,x5] ty (0,0))) (a b c d e f:Value):(YD w N a b c d e f).heap[N]?=some (.cells #[a,b,c,d,e,f] ty (0,0)) :=
 xH (xH (xH (xH (xH (xH h a) b) c) d) e) f
theorem YL {w0 w:World} {n N:Nat} (hb:Below n w0 w) (h:n≤N) (a b c:Value):Below n w0 (xY w N a b c) :=
 ((hb.setCell (p:=⟨N,0,none⟩) h _).setCell (p:=⟨N,1,none⟩) h _).setCell (p:=⟨N,2,none⟩) h _
theorem yr {w0 w:World} {n N:Nat} (hb:Below n w0 w) (h:n≤N) (a b c d e f:Value):Below n w0 (YD w N a b c d e f) :=
 (((((hb.setCell (p:=⟨N,0,none⟩) h _).setCell (p:=⟨N,1,none⟩) h _).setCell (p:=⟨N,2,none⟩) h _).setCell (p:=⟨N,3,none⟩) h _).setCell (p:=⟨N,4,none⟩) h _).setCell (p:=⟨N,5,none⟩) h _
theorem vK (w:World):Calls Tryz.prog 58 #[] w fun e w'=>e=.returned (.slice (some ⟨w.heap.size,0,none⟩) 17 17)∧w'=w.alloc Yt:=by
 go_enter Tryz.func58,Tryz.ntmps58
 go_wp2
 go_ret
 exact ⟨rfl,rfl⟩
theorem U1 (p:Wq→Bool) (g:Nat) (w:World)
  (hk:∀r W,Below w.heap.size w W→Calls Tryz.prog 51 #[wV r,.pointer (some ⟨g,0,none⟩)] W fun e w'=>e=.returned (.bool (p r))∧Below W.heap.size W w') :
  Calls Tryz.prog 37 #[.func (.func 51) #[] #[.pointer (some ⟨g,0,none⟩)]] w fun e w'=>e=.returned (wV (findQ p))∧Below w.heap.size w w':=by
 have HK:Hid (∀r W,Below w.heap.size w W→Calls Tryz.prog 51 #[wV r,.pointer (some ⟨g,0,none⟩)] W fun e w'=>e=.returned (.bool (p r))∧Below W.heap.size W w'):=hk
 obtain ⟨w1,G⟩:∃w1,w1=w.alloc (.cells #[.int .i64 0,.string ⟨#[]⟩,.bool false,.int .i64 0,.bool false,.string ⟨#[]⟩] 55 (0,0)):=⟨_,rfl⟩;have ad:Below w.heap.size w w1:=by rw [G];exact (Below.refl _ w).alloc (Nat.le_refl _) _
 have O:w1.heap.size=w.heap.size+1:=by rw [G];simp
 have p1:w1.heap[w.heap.size]?=some (.cells #[.int .i64 0,.string ⟨#[]⟩,.bool false,.int .i64 0,.bool false,.string ⟨#[]⟩] 55 (0,0)):=by rw [G];exact World.alloc_heap_new w _
 have cw:=vK w1;have ab:=G.symm;clear hk G
 go_enter Tryz.func37,Tryz.ntmps37
 go_wp2_with fail
 refine cw.mono ?_;clear cw ab;rintro e w2 ⟨rfl,K⟩;have y:w2.heap.size=w.heap.size+2:=by rw [K];simp [O]
 have o:Below w1.heap.size w1 w2:=by rw [K];exact (Below.refl _ w1).alloc (Nat.le_refl _) _
 have I:w2.heap[w1.heap.size]?=some Yt:=by rw [K];exact World.alloc_heap_new w1 _
 have H:w2.heap[w.heap.size]?=some (.cells #[.int .i64 0,.string ⟨#[]⟩,.bool false,.int .i64 0,.bool false,.string ⟨#[]⟩] 55 (0,0)):=(o.block _ (by omega)).trans p1
 rw [O] at I ⊢;obtain ⟨B,M⟩:∃B,B=w.heap.size:=⟨_,rfl⟩;rw [←M] at I H y ⊢;have aa:Hid (Below w.heap.size w w2∧w.heap.size=B∧w2.heap.size=B+2):=⟨Z8 ad o,M.symm,y⟩;have V:Hid (w2.heap[B+1]?=some Yt∧w2.heap[B]?=some (.cells #[.int .i64 0,.string ⟨#[]⟩,.bool false,.int .i64 0,.bool false,.string ⟨#[]⟩] 55 (0,0))):=⟨I,H⟩;clear ad O p1 K y o I H M;go_wp2_with fail
 go_loopw [7] (fun vi wr=>∃i:Nat,i≤17∧vi=.int .i64 i∧(∀j (h:j<tabQ.length),j<i→p tabQ[j]=false)∧Below w2.heap.size w2 wr) (fun vi _=>17-(intOf vi).toNat)
 case atStart=>exact ⟨0,Nat.zero_le _,rfl,fun j h hj=>by omega,Below.refl _ _⟩
 case round =>
  obtain ⟨i,hi,rfl,J,z⟩:=hrel;have HN:Hid (∀j (h:j<tabQ.length),j<i→p tabQ[j]=false):=J;have af:Hid (Below w2.heap.size w2 wr):=z;obtain ⟨o,M,y⟩:=aa.out;obtain ⟨I,H⟩:=V.out;have qr:wr.heap[B+1]?=some Yt:=(z.block _ (by omega)).trans I
  have pr:wr.heap[B]?=some (.cells #[.int .i64 0,.string ⟨#[]⟩,.bool false,.int .i64 0,.bool false,.string ⟨#[]⟩] 55 (0,0)):=(z.block _ (by omega)).trans H
  by_cases hlt:i<17
  ·have ah:(i:Int)<17:=by omega
   obtain ⟨k,t,D,le,E,m,T,c0,c1,c2,c3,c4,c5⟩:=vI qr i (by rw [xu];exact hlt)
   obtain ⟨w3,L⟩:∃w3,w3=wr.alloc (.cells #[.int .i64 k,.string (za t),.bool D,.int .i64 le,.bool E,.string (za m)] 55 (0,0)):=⟨_,rfl⟩;have A:Below wr.heap.size wr w3:=by rw [L];exact (Below.refl _ wr).alloc (Nat.le_refl _) _
   have Q:w3.heap[wr.heap.size]?=some (.cells #[.int .i64 k,.string (za t),.bool D,.int .i64 le,.bool E,.string (za m)] 55 (0,0)):=by rw [L];exact World.alloc_heap_new wr _
   have X:Below w.heap.size w w3:=Z8 (Z8 o z) A;have cc:=HK.out (k,t,D,le,E,m) w3 X;have HR:Hid (∃h:i<tabQ.length,tabQ[i]=(k,t,D,le,E,m)):=⟨_,T⟩;have ag:Hid (w3.heap[wr.heap.size]?=some (.cells #[.int .i64 k,.string (za t),.bool D,.int .i64 le,.bool E,.string (za m)] 55 (0,0))∧Below wr.heap.size wr w3):=⟨Q,A⟩;have ae:=L.symm;obtain ⟨d0,d1,d2,d3,d4,d5,-⟩:=zE Q;clear J z o M y I H qr pr T A Q X L
   unfold wV at cc
   simp only at cc;go_wp2_with fail
   refine cc.mono ?_;clear cc d0 d1 d2 d3 d4 d5 c0 c1 c2 c3 c4 c5 ae;rintro e w4 ⟨rfl,R⟩;obtain ⟨Q,A⟩:=ag.out;have U:w4.heap[wr.heap.size]?=some (.cells #[.int .i64 k,.string (za t),.bool D,.int .i64 le,.bool E,.string (za m)] 55 (0,0)):=(R.block _ (Yf Q)).trans Q;obtain ⟨d0,d1,d2,d3,d4,d5,-⟩:=zE U;have N:Hid (Below w2.heap.size w2 w4):=Z8 af.out (Z8 A R);clear Q A R U;cases hp:p (k,t,D,le,E,m) with
   | true =>
    have HF:Hid (findQ p=(k,t,D,le,E,m)):=by
     obtain ⟨h,T⟩:=HR.out;rw [←T] at hp ⊢;exact vJ h HN.out hp
    obtain ⟨o,M,y⟩:=aa.out;obtain ⟨I,H⟩:=V.out;have U:w4.heap[B]?=some (.cells #[.int .i64 0,.string ⟨#[]⟩,.bool false,.int .i64 0,.bool false,.string ⟨#[]⟩] 55 (0,0)):=(N.out.block _ (by omega)).trans H
    obtain ⟨e0,e1,e2,e3,e4,e5,ef⟩:=zE U;obtain ⟨z0,z1,z2,Y,z4,Z,-⟩:=zE (yq U (.int .i64 k) (.string (za t)) (.bool D) (.int .i64 le) (.bool E) (.string (za m)));have HZ:Hid (Below w.heap.size w (YD w4 B (.int .i64 k) (.string (za t)) (.bool D) (.int .i64 le) (.bool E) (.string (za m)))):=yr (Z8 o N.out) (by omega) _ _ _ _ _ _
    clear o M y I H U hp
    unfold YD at z0 z1 z2 Y z4 Z
    go_wp2
    exact bodyPost_ret (v:=.agg #[.int .i64 k,.string (za t),.bool D,.int .i64 le,.bool E,.string (za m)]) (by simp [results,Tryz.results37,go_sem,z0,z1,z2,Y,z4,Z]) rfl ⟨by rw [HF.out];rfl,HZ.out⟩
   | false =>
    go_wp2
    refine ⟨⟨i+1,by omega,by go_num,fun j h hj=>?_,N.out⟩,by simp [intOf];omega⟩
    by_cases hji:j<i
    ·exact HN.out j h hji
    ·obtain rfl:j=i:=by omega
     obtain ⟨h',T⟩:=HR.out;rw [T];exact hp
  ·obtain rfl:i=17:=by omega
   obtain ⟨e0,e1,e2,e3,e4,e5,ef⟩:=zE pr;have HF:Hid (findQ p=yT):=Xw fun j h=>J j h (by rw [xu] at h;exact h)
   obtain ⟨z0,z1,z2,Y,z4,Z,-⟩:=zE (yq pr (.int .i64 0) (.string ⟨#[]⟩) (.bool false) (.int .i64 0) (.bool false) (.string ⟨#[]⟩));have HZ:Hid (Below w.heap.size w (YD wr B (.int .i64 0) (.string ⟨#[]⟩) (.bool false) (.int .i64 0) (.bool false) (.string ⟨#[]⟩))):=yr (Z8 o z) (by omega) _ _ _ _ _ _
   clear J z o M y I H qr pr
   unfold YD at z0 z1 z2 Y z4 Z
   go_wp2
   exact bodyPost_ret (v:=.agg #[.int .i64 0,.string ⟨#[]⟩,.bool false,.int .i64 0,.bool false,.string ⟨#[]⟩]) (by simp [results,Tryz.results37,go_sem,z0,z1,z2,Y,z4,Z]) rfl ⟨by rw [HF.out];rfl,HZ.out⟩
theorem Yg (w:World) (A:Obj):∃w1,w1=w.alloc A∧Below w.heap.size w w1∧w1.heap.size=w.heap.size+1∧w1.heap[w.heap.size]?=some A :=
 ⟨_,rfl,(Below.refl _ _).alloc (Nat.le_refl _) _,by simp,World.alloc_heap_new _ _⟩
theorem qW (w:World) (A B:Obj):∃w1,w1=(w.alloc A).alloc B∧Below w.heap.size w w1∧w1.heap.size=w.heap.size+2∧w1.heap[w.heap.size]?=some A∧w1.heap[w.heap.size+1]?=some B :=
 ⟨_,rfl,((Below.refl _ _).alloc (Nat.le_refl _) _).alloc (by simp) _,by simp,by rw [Below.heap_alloc _ _ _ (by simp)];exact World.alloc_heap_new _ _,by
  have:=World.alloc_heap_new (w.alloc A) B
  simpa using this⟩
theorem VS (k:Int) (g:Nat) (r:Wq) (w:World) (h:w.cell? ⟨g,0,none⟩=some (.int .i64 k)) :
  Calls Tryz.prog 51 #[wV r,.pointer (some ⟨g,0,none⟩)] w fun e w'=>e=.returned (.bool (decide (r.1=k)))∧Below w.heap.size w w':=by
 obtain ⟨a,b,c,d,e,f⟩:=r
 unfold wV
 have y:g<w.heap.size:=World.block_lt_of_cell? w _ h;have z:∀o,(w.alloc o).cell? ⟨g,0,none⟩=some (.int .i64 k):=fun o=>by rw [World.cell?_alloc_lt _ _ _ y];exact h
 clear h
 go_enter Tryz.func51,Tryz.ntmps51
 go_wp2
 go_ret
 exact ⟨by rw [show (a==k)=decide (a=k) by by_cases h:a=k <;> simp [h]];rfl,(Below.refl _ w).alloc (Nat.le_refl _) _⟩
theorem Xx (k:Int) (w:World) :
  Calls Tryz.prog 24 #[.int .i64 k] w fun e w'=>e=.returned (wV (ofKind k))∧Below w.heap.size w w':=by
 have U:∀(fn:Fn) (first cap:Array Value) (w:World),(Instr.makeFunc fn first cap).run Tryz.prog w=.ok (.func fn first cap) w:=fun _ _ _ _=>rfl
 obtain ⟨E,D,h,o,M,A⟩:=qW w (.cells #[.int .i64 k] 22 (0,0)) (.cells #[.int .i64 0,.string ⟨#[]⟩,.bool false,.int .i64 0,.bool false,.string ⟨#[]⟩] 55 (0,0));have T:=U1 (fun r=>decide (r.1=k)) w.heap.size E fun r W hW=>VS k w.heap.size r W ((xX hW (by omega)).trans (Zm M).1)
 have V:Hid (E.heap[w.heap.size+1]?=some (.cells #[.int .i64 0,.string ⟨#[]⟩,.bool false,.int .i64 0,.bool false,.string ⟨#[]⟩] 55 (0,0))∧Below w.heap.size w E∧E.heap.size=w.heap.size+2):=⟨A,h,o⟩;have z:=D.symm;clear D h o M A
 go_enter Tryz.func24,Tryz.ntmps24
 go_wp2_with fail
 refine T.mono ?_;clear T z;rintro e L ⟨rfl,y⟩;obtain ⟨A,h,o⟩:=V.out;have G:L.heap[w.heap.size+1]?=_:=(y.block _ (by omega)).trans A
 obtain ⟨e0,Y,e2,e3,Z,e5,ef⟩:=zE G;have K:Hid (findQ (fun r=>decide (r.1=k))=ofKind k):=rfl
 generalize findQ (fun r=>decide (r.1=k))=R at K ⊢
 obtain ⟨a,b,c,d,f,g⟩:=R;obtain ⟨N,I,O,J,H,Q,-⟩:=zE (yq G (.int .i64 a) (.string (za b)) (.bool c) (.int .i64 d) (.bool f) (.string (za g)));have X:Hid (Below w.heap.size w (YD L (w.heap.size+1) (.int .i64 a) (.string (za b)) (.bool c) (.int .i64 d) (.bool f) (.string (za g)))):=yr (Z8 h y) (by omega) _ _ _ _ _ _
 clear A h o G y
 unfold YD at N I O J H Q
 unfold wV
 simp only;go_wp2
 exact bodyPost_ret (v:=.agg #[.int .i64 a,.string (za b),.bool c,.int .i64 d,.bool f,.string (za g)]) (by simp [results,Tryz.results24,go_sem,N,I,O,J,H,Q]) rfl ⟨by rw [←K.out];rfl,X.out⟩
theorem qb3 (w:World) (A B C:Obj):Below w.heap.size w (((w.alloc A).alloc B).alloc C):=(((Below.refl _ w).alloc (Nat.le_refl _) _).alloc (by simp) _).alloc (by simp;omega) _
theorem zaK (w:World) (A B C:Obj) (j:Nat) (v:Value):Below w.heap.size w ((((w.alloc A).alloc B).alloc C).setCell ⟨w.heap.size+1+1,j,none⟩ v):=(qb3 w A B C).setCell (by simp;omega) _
theorem zaL (w:World) (A B C:Obj) (j i:Nat) (v u:Value):Below w.heap.size w (((((w.alloc A).alloc B).alloc C).setCell ⟨w.heap.size+1+1,j,none⟩ v).setCell ⟨w.heap.size+1+1,i,none⟩ u):=(zaK w A B C j v).setCell (by simp;omega) _
theorem uQ (r:Wq) (k n:Int) (s:List UInt8) (w:World) :
  Calls Tryz.prog 31 #[wV r,yi k n s] w fun e w'=>e=.returned (.bool (decide (k=r.1∧(r.2.2.1=false→n=0)∧(r.2.2.2.2.1=false→s=[]))))∧Below w.heap.size w w':=by
 obtain ⟨a,b,c,d,f,g⟩:=r
 unfold wV yi
 simp only
 cases c <;> cases f <;> (go_enter Tryz.func31,Tryz.ntmps31;go_wp2)
 all_goals
  go_ret
  exact ⟨by simp_all,by first | exact qb3 _ _ _ _ | exact zaK _ _ _ _ _ _ | exact zaL _ _ _ _ _ _ _ _⟩
theorem qX (r:Wq) (n:Int) (w:World) :
  Calls Tryz.prog 32 #[wV r,.int .i64 n] w fun e w'=>e=.returned (.bool (decide (r.2.2.1=true→r.2.2.2.1≤n∧n≤4294967296)))∧Below w.heap.size w w':=by
 obtain ⟨a,b,c,d,f,g⟩:=r
 unfold wV
 simp only
 cases c <;> (go_enter Tryz.func32,Tryz.ntmps32;go_wp2)
 all_goals
  go_ret
  refine ⟨?_,(Below.refl _ w).alloc (Nat.le_refl _) _⟩
  first | (simp_all;done) | (simp_all;omega)
def qY:List Value:=tabQ.map fun r=>.string (za r.2.1)
theorem qZ (j:Nat) (hj:j<17):qY[j]?=some (.string (za (ofKind ((j:Int)+1)).2.1)):=by
 have h:j=0∨j=1∨j=2∨j=3∨j=4∨j=5∨j=6∨j=7∨j=8∨j=9∨j=10∨j=11∨j=12∨j=13∨j=14∨j=15∨j=16:=by omega
 rcases h with rfl | rfl | rfl | rfl | rfl | rfl | rfl | rfl | rfl | rfl | rfl | rfl | rfl | rfl | rfl | rfl | rfl <;> rfl
theorem U2 (j:Nat) (hj:j<17) (w:World) :
  Calls Tryz.prog 29 #[.int .i64 ((j:Int)+1)] w fun e w'=>e=.returned (.string (za (ofKind ((j:Int)+1)).2.1))∧Below w.heap.size w w':=by
 obtain ⟨D,y,o,A,E⟩:=Yg w (.cells qY.toArray 9 (0,0))
 have J:D.cell? ⟨w.heap.size,j,none⟩=some (.string (za (ofKind ((j:Int)+1)).2.1)):=by
  simp only [World.cell?,E]
  have:=qZ j hj
  simpa using this
 have G:(j:Int)<17:=by omega
 have z:Hid (Below w.heap.size w D):=o;have h:=y.symm;have H:IntKind.i64.wrap ((j:Int)+1-1)=j:=by rw [IntKind.wrap_i64];omega
 have I:(j:Int)+1-1=j:=by omega
 clear y o A E
 unfold qY tabQ at h
 simp only [List.map_cons,List.map_nil] at h
 go_enter Tryz.func29,Tryz.ntmps29
 go_wp2
 go_ret
 exact ⟨rfl,z.out⟩
end Go.Proofs.YtmbofhpmockmbaaGreatDoor
