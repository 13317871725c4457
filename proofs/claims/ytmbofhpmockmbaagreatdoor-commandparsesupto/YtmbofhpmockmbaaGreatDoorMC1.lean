import Derived.Test.YtmbofhpmockmbaaGreatDoorWAll
import Derived.Lib.Strings
import Derived.Laws.DeepStrings4
import Derived.Test.YtmbofhpmockmbaaGreatDoorQMath
import Derived.Test.YtmbofhpmockmbaaGreatDoorShelf
import Derived.LoopN
import Derived.RangeFuncRecord
import Derived.Maps.AppendAt
import Derived.Laws.OwnMore
namespace Go.Proofs.YtmbofhpmockmbaaGreatDoor
open Go.RowKit
set_option maxHeartbeats 16000000
set_option maxRecDepth 100000
abbrev za (l:List UInt8):ByteArray:=⟨l.toArray⟩
theorem ZE (l:List UInt8):(za l).size=l.length:=rfl
theorem Yz (l:List UInt8) (a b:Nat):(za l).extract a b=za ((l.drop a).take (b-a)):=by
 have e:=Lib.extract_data (za l) a b;have h:(za l).data.toList=l:=rfl;rw [h] at e;show _=(⟨_⟩:ByteArray)
 rw [←e]
theorem yR (w:World) (l:List UInt8) (a:Nat) (h:a≤l.length) :
  (Instr.slice 9 (.string (za l)) (some (.int .i64 (a:Int))) none none).run Tryz.prog w=.ok (.string (za (l.drop a))) w:=by
 rw [run_slice_string_from_if (P:=Tryz.prog) (w:=w) 9 (za l) .i64 _ Tryz.underlying9,if_pos ⟨by omega,by rw [ZE];omega⟩]
 rw [Int.toNat_natCast,Yz,ZE,List.take_of_length_le (by rw [List.length_drop];omega)]
theorem XI (w:World) (l:List UInt8) (b:Nat) (h:b≤l.length) :
  (Instr.slice 9 (.string (za l)) none (some (.int .i64 (b:Int))) none).run Tryz.prog w=.ok (.string (za (l.take b))) w:=by
 rw [run_slice_string_to_if (P:=Tryz.prog) (w:=w) 9 (za l) .i64 _ Tryz.underlying9,if_pos ⟨by omega,by rw [ZE];omega⟩]
 rw [Int.toNat_natCast,Yz,List.drop_zero,Nat.sub_zero]
theorem Y5 (w:World) (l:List UInt8) (a n:Nat) (h:a+n≤l.length) :
  (Instr.slice 9 (.string (za l)) (some (.int .i64 (a:Int))) (some (.int .i64 ((a:Int)+(n:Int)))) none).run Tryz.prog w=.ok (.string (za ((l.drop a).take n))) w:=by
 rw [run_slice_string_if (P:=Tryz.prog) (w:=w) 9 (za l) .i64 .i64 _ _ Tryz.underlying9,if_pos ⟨by omega,by rw [ZE];omega⟩,if_pos ⟨by omega,by omega⟩]
 have e:((a:Int)+(n:Int)).toNat=a+n:=by omega
 rw [e,Int.toNat_natCast,Yz,show a+n-a=n by omega]
end Go.Proofs.YtmbofhpmockmbaaGreatDoor
namespace Go.Proofs.YtmbofhpmockmbaaGreatDoor
open Go.RowKit Go.Shelf
set_option maxHeartbeats 16000000
set_option maxRecDepth 100000
theorem yb {w w2 w':World} (hb2:Below w.heap.size w w2) (h2:Below w2.heap.size w2 w'):Below w.heap.size w w':=hb2.trans (h2.mono hb2.size)
theorem Xe {n:Nat} {w w':World} (h:Below n w w') {g j:Nat} (hg:g<n):w'.cell? ⟨g,j,none⟩=w.cell? ⟨g,j,none⟩:=World.cell?_of_block (h.block g hg)
theorem y7 {w:World} {N:Nat} {o:Obj} (h:w.heap[N]?=some o):N<w.heap.size:=(Array.getElem?_eq_some_iff.1 h).1
theorem Zq {w:World} {N:Nat} {x0:Value} {ty:TypeId} (h:w.heap[N]?=some (.cells #[x0] ty (0,0))) :
  w.cell? ⟨N,0,none⟩=some x0∧∀j,w.frozen? ⟨N,j,none⟩=false:=by
 exact ⟨by simp only [World.cell?,h];rfl,fun j=>by simp only [World.frozen?,h];simp⟩
theorem zw {w:World} {N:Nat} {x0 x1 x2:Value} {ty:TypeId} (h:w.heap[N]?=some (.cells #[x0,x1,x2] ty (0,0))) :
  w.cell? ⟨N,0,none⟩=some x0∧w.cell? ⟨N,1,none⟩=some x1∧w.cell? ⟨N,2,none⟩=some x2∧∀j,w.frozen? ⟨N,j,none⟩=false:=by
 exact ⟨by simp only [World.cell?,h];rfl,by simp only [World.cell?,h];rfl,by simp only [World.cell?,h];rfl,fun j=>by simp only [World.frozen?,h];simp⟩
theorem zG {w:World} {N:Nat} {x0 x1 x2 x3 x4 x5:Value} {ty:TypeId} (h:w.heap[N]?=some (.cells #[x0,x1,x2,x3,x4,x5] ty (0,0))) :
  w.cell? ⟨N,0,none⟩=some x0∧w.cell? ⟨N,1,none⟩=some x1∧w.cell? ⟨N,2,none⟩=some x2∧w.cell? ⟨N,3,none⟩=some x3∧w.cell? ⟨N,4,none⟩=some x4∧w.cell? ⟨N,5,none⟩=some x5∧∀j,w.frozen? ⟨N,j,none⟩=false:=by
 exact ⟨by simp only [World.cell?,h];rfl,by simp only [World.cell?,h];rfl,by simp only [World.cell?,h];rfl,by simp only [World.cell?,h];rfl,by simp only [World.cell?,h];rfl,by simp only [World.cell?,h];rfl,fun j=>by simp only [World.frozen?,h];simp⟩
def wC (r:Wq):List Value:=[.int .i64 r.1,.string (za r.2.1),.bool r.2.2.1,.int .i64 r.2.2.2.1,.bool r.2.2.2.2.1,.string (za r.2.2.2.2.2)]
def wV (r:Wq):Value:=.agg #[.int .i64 r.1,.string (za r.2.1),.bool r.2.2.1,.int .i64 r.2.2.2.1,.bool r.2.2.2.2.1,.string (za r.2.2.2.2.2)]
def yJ (k n:Int) (s:List UInt8):Value:=.agg #[.int .i64 k,.int .i64 n,.string (za s)]
def za6:List Value:=tabQ.flatMap wC
def YA:Obj:=.cells za6.toArray 55 (0,0)
theorem xG:tabQ.length=17:=rfl
theorem zaK (i:Nat) (hi:i<tabQ.length):∀j (u:Value),(wC tabQ[i])[j]?=some u→za6[i*6+j]?=some u:=by
 have h:i=0∨i=1∨i=2∨i=3∨i=4∨i=5∨i=6∨i=7∨i=8∨i=9∨i=10∨i=11∨i=12∨i=13∨i=14∨i=15∨i=16:=by rw [xG] at hi;omega
 intro j u e
 have y:j<6:=by
  have:=(List.getElem?_eq_some_iff.1 e).1
  simpa [wC] using this
 have o:j=0∨j=1∨j=2∨j=3∨j=4∨j=5:=by omega
 rcases h with rfl | rfl | rfl | rfl | rfl | rfl | rfl | rfl | rfl | rfl | rfl | rfl | rfl | rfl | rfl | rfl | rfl <;> rcases o with rfl | rfl | rfl | rfl | rfl | rfl <;> exact e
theorem v7 {w:World} {g:Nat} (h:w.heap[g]?=some YA) (i:Nat) (hi:i<tabQ.length):∃k t hn le hs m,tabQ[i]=(k,t,hn,le,hs,m) ∧
  w.cell? ⟨g,i*6,none⟩=some (.int .i64 k)∧w.cell? ⟨g,i*6+1,none⟩=some (.string (za t))∧w.cell? ⟨g,i*6+2,none⟩=some (.bool hn)∧w.cell? ⟨g,i*6+3,none⟩=some (.int .i64 le)∧w.cell? ⟨g,i*6+4,none⟩=some (.bool hs)∧w.cell? ⟨g,i*6+5,none⟩=some (.string (za m)):=by
 have e:∀j u,(wC tabQ[i])[j]?=some u→w.cell? ⟨g,i*6+j,none⟩=some u:=fun j u hu=>by
  have:=zaK i hi j u hu
  simp only [World.cell?,h,YA]
  simpa using this
 refine ⟨tabQ[i].1,tabQ[i].2.1,tabQ[i].2.2.1,tabQ[i].2.2.2.1,tabQ[i].2.2.2.2.1,tabQ[i].2.2.2.2.2,rfl,e 0 _ rfl,e 1 _ rfl,e 2 _ rfl,e 3 _ rfl,e 4 _ rfl,e 5 _ rfl⟩
theorem v8 {p:Wq→Bool} {i:Nat} (hi:i<tabQ.length) (hno:∀j (h:j<tabQ.length),j<i→p tabQ[j]=false) (hp:p tabQ[i]=true):findQ p=tabQ[i]:=by
 unfold findQ
 have:tabQ.find? p=some tabQ[i]:=by
  rw [List.find?_eq_some_iff_getElem];exact ⟨hp,i,hi,rfl,fun j hj=>by simpa using hno j (by omega) hj⟩
 rw [this];rfl
theorem XJ {p:Wq→Bool} (hno:∀j (h:j<tabQ.length),p tabQ[j]=false):findQ p=y5:=by
 unfold findQ
 have:tabQ.find? p=none:=by
  rw [List.find?_eq_none];intro x e;obtain ⟨j,o,rfl⟩:=List.mem_iff_getElem.1 e
  simpa using hno j o
 rw [this];rfl
theorem xR {w:World} {b:Nat} {cs:Array Value} {ty:TypeId} {fz:Nat × Nat} (h:w.heap[b]?=some (.cells cs ty fz)) {j:Nat} (v:Value):(w.setCell ⟨b,j,none⟩ v).heap[b]?=some (.cells (cs.setIfInBounds j v) ty fz):=by
 unfold World.setCell
 simp [Array.getElem?_modify,h]
def YL (w:World) (N:Nat) (a b c:Value):World:=((w.setCell ⟨N,0,none⟩ a).setCell ⟨N,1,none⟩ b).setCell ⟨N,2,none⟩ c
def YM (w:World) (N:Nat) (a b c d e f:Value):World:=(((((w.setCell ⟨N,0,none⟩ a).setCell ⟨N,1,none⟩ b).setCell ⟨N,2,none⟩ c).setCell ⟨N,3,none⟩ d).setCell ⟨N,4,none⟩ e).setCell ⟨N,5,none⟩ f
theorem yu {w:World} {N:Nat} {x0 x1 x2:Value} {ty:TypeId} (h:w.heap[N]?=some (.cells #[x0,x1,x2] ty (0,0))) (a b c:Value):(YL w N a b c).heap[N]?=some (.cells #[a,b,c] ty (0,0)) :=
 xR (xR (xR h a) b) c
theorem yv {w:World} {N:Nat} {x0 x1 x2 x3 x4 x5:Value} {ty:TypeId} (h:w.heap[N]?=some (.cells #[x0,x1,x2,x3,x4,x5] ty (0,0))) (a b c d e f:Value):(YM w N a b c d e f).heap[N]?=some (.cells #[a,b,c,d,e,f] ty (0,0)) :=
 xR (xR (xR (xR (xR (xR h a) b) c) d) e) f
theorem yw {w0 w:World} {n N:Nat} (hb:Below n w0 w) (h:n≤N) (a b c:Value):Below n w0 (YL w N a b c) :=
 ((hb.setCell (p:=⟨N,0,none⟩) h _).setCell (p:=⟨N,1,none⟩) h _).setCell (p:=⟨N,2,none⟩) h _
theorem yx {w0 w:World} {n N:Nat} (hb:Below n w0 w) (h:n≤N) (a b c d e f:Value):Below n w0 (YM w N a b c d e f) :=
 (((((hb.setCell (p:=⟨N,0,none⟩) h _).setCell (p:=⟨N,1,none⟩) h _).setCell (p:=⟨N,2,none⟩) h _).setCell (p:=⟨N,3,none⟩) h _).setCell (p:=⟨N,4,none⟩) h _).setCell (p:=⟨N,5,none⟩) h _
theorem Va (w:World):Calls Tryz.prog 58 #[] w fun e w'=>e=.returned (.slice (some ⟨w.heap.size,0,none⟩) 17 17)∧w'=w.alloc YA:=by
 go_enter Tryz.func58,Tryz.ntmps58
 go_wp2
 go_ret
 exact ⟨rfl,rfl⟩
theorem qp (p:Wq→Bool) (g:Nat) (w:World)
  (hk:∀r W,Below w.heap.size w W→Calls Tryz.prog 51 #[wV r,.pointer (some ⟨g,0,none⟩)] W fun e w'=>e=.returned (.bool (p r))∧Below W.heap.size W w') :
  Calls Tryz.prog 37 #[.func (.func 51) #[] #[.pointer (some ⟨g,0,none⟩)]] w fun e w'=>e=.returned (wV (findQ p))∧Below w.heap.size w w':=by
 have HK:Hid (∀r W,Below w.heap.size w W→Calls Tryz.prog 51 #[wV r,.pointer (some ⟨g,0,none⟩)] W fun e w'=>e=.returned (.bool (p r))∧Below W.heap.size W w'):=hk
 obtain ⟨w1,G⟩:∃w1,w1=w.alloc (.cells #[.int .i64 0,.string ⟨#[]⟩,.bool false,.int .i64 0,.bool false,.string ⟨#[]⟩] 55 (0,0)):=⟨_,rfl⟩;have ae:Below w.heap.size w w1:=by rw [G];exact (Below.refl _ w).alloc (Nat.le_refl _) _
 have O:w1.heap.size=w.heap.size+1:=by rw [G];simp
 have p1:w1.heap[w.heap.size]?=some (.cells #[.int .i64 0,.string ⟨#[]⟩,.bool false,.int .i64 0,.bool false,.string ⟨#[]⟩] 55 (0,0)):=by rw [G];exact World.alloc_heap_new w _
 have cw:=Va w1;have aa:=G.symm;clear hk G
 go_enter Tryz.func37,Tryz.ntmps37
 go_wp2_with fail
 refine cw.mono ?_;clear cw aa;rintro e w2 ⟨rfl,K⟩;have y:w2.heap.size=w.heap.size+2:=by rw [K];simp [O]
 have o:Below w1.heap.size w1 w2:=by rw [K];exact (Below.refl _ w1).alloc (Nat.le_refl _) _
 have I:w2.heap[w1.heap.size]?=some YA:=by rw [K];exact World.alloc_heap_new w1 _
 have H:w2.heap[w.heap.size]?=some (.cells #[.int .i64 0,.string ⟨#[]⟩,.bool false,.int .i64 0,.bool false,.string ⟨#[]⟩] 55 (0,0)):=(o.block _ (by omega)).trans p1
 rw [O] at I ⊢;obtain ⟨B,M⟩:∃B,B=w.heap.size:=⟨_,rfl⟩;rw [←M] at I H y ⊢;have ad:Hid (Below w.heap.size w w2∧w.heap.size=B∧w2.heap.size=B+2):=⟨yb ae o,M.symm,y⟩;have V:Hid (w2.heap[B+1]?=some YA∧w2.heap[B]?=some (.cells #[.int .i64 0,.string ⟨#[]⟩,.bool false,.int .i64 0,.bool false,.string ⟨#[]⟩] 55 (0,0))):=⟨I,H⟩;clear ae O p1 K y o I H M;go_wp2_with fail
 go_loopw [7] (fun vi wr=>∃i:Nat,i≤17∧vi=.int .i64 i∧(∀j (h:j<tabQ.length),j<i→p tabQ[j]=false)∧Below w2.heap.size w2 wr) (fun vi _=>17-(intOf vi).toNat)
 case atStart=>exact ⟨0,Nat.zero_le _,rfl,fun j h hj=>by omega,Below.refl _ _⟩
 case round =>
  obtain ⟨i,hi,rfl,L,z⟩:=hrel;have HN:Hid (∀j (h:j<tabQ.length),j<i→p tabQ[j]=false):=L;have af:Hid (Below w2.heap.size w2 wr):=z;obtain ⟨o,M,y⟩:=ad.out;obtain ⟨I,H⟩:=V.out;have qr:wr.heap[B+1]?=some YA:=(z.block _ (by omega)).trans I
  have pr:wr.heap[B]?=some (.cells #[.int .i64 0,.string ⟨#[]⟩,.bool false,.int .i64 0,.bool false,.string ⟨#[]⟩] 55 (0,0)):=(z.block _ (by omega)).trans H
  by_cases hlt:i<17
  ·have ah:(i:Int)<17:=by omega
   obtain ⟨k,t,D,le,E,m,U,c0,c1,c2,c3,c4,c5⟩:=v7 qr i (by rw [xG];exact hlt)
   obtain ⟨w3,J⟩:∃w3,w3=wr.alloc (.cells #[.int .i64 k,.string (za t),.bool D,.int .i64 le,.bool E,.string (za m)] 55 (0,0)):=⟨_,rfl⟩;have A:Below wr.heap.size wr w3:=by rw [J];exact (Below.refl _ wr).alloc (Nat.le_refl _) _
   have R:w3.heap[wr.heap.size]?=some (.cells #[.int .i64 k,.string (za t),.bool D,.int .i64 le,.bool E,.string (za m)] 55 (0,0)):=by rw [J];exact World.alloc_heap_new wr _
   have ab:Below w.heap.size w w3:=yb (yb o z) A;have cc:=HK.out (k,t,D,le,E,m) w3 ab;have HR:Hid (∃h:i<tabQ.length,tabQ[i]=(k,t,D,le,E,m)):=⟨_,U⟩;have ag:Hid (w3.heap[wr.heap.size]?=some (.cells #[.int .i64 k,.string (za t),.bool D,.int .i64 le,.bool E,.string (za m)] 55 (0,0))∧Below wr.heap.size wr w3):=⟨R,A⟩;have X:=J.symm;obtain ⟨d0,d1,d2,d3,d4,d5,-⟩:=zG R;clear L z o M y I H qr pr U A R ab J
   unfold wV at cc
   simp only at cc;go_wp2_with fail
   refine cc.mono ?_;clear cc d0 d1 d2 d3 d4 d5 c0 c1 c2 c3 c4 c5 X;rintro e w4 ⟨rfl,N⟩;obtain ⟨R,A⟩:=ag.out;have T:w4.heap[wr.heap.size]?=some (.cells #[.int .i64 k,.string (za t),.bool D,.int .i64 le,.bool E,.string (za m)] 55 (0,0)):=(N.block _ (y7 R)).trans R;obtain ⟨d0,d1,d2,d3,d4,d5,-⟩:=zG T;have Q:Hid (Below w2.heap.size w2 w4):=yb af.out (yb A N);clear R A N T;cases hp:p (k,t,D,le,E,m) with
   | true =>
    have HF:Hid (findQ p=(k,t,D,le,E,m)):=by
     obtain ⟨h,U⟩:=HR.out;rw [←U] at hp ⊢;exact v8 h HN.out hp
    obtain ⟨o,M,y⟩:=ad.out;obtain ⟨I,H⟩:=V.out;have T:w4.heap[B]?=some (.cells #[.int .i64 0,.string ⟨#[]⟩,.bool false,.int .i64 0,.bool false,.string ⟨#[]⟩] 55 (0,0)):=(Q.out.block _ (by omega)).trans H
    obtain ⟨e0,e1,e2,e3,e4,e5,ef⟩:=zG T;obtain ⟨Y,z1,z2,z3,z4,Z,-⟩:=zG (yv T (.int .i64 k) (.string (za t)) (.bool D) (.int .i64 le) (.bool E) (.string (za m)));have HZ:Hid (Below w.heap.size w (YM w4 B (.int .i64 k) (.string (za t)) (.bool D) (.int .i64 le) (.bool E) (.string (za m)))):=yx (yb o Q.out) (by omega) _ _ _ _ _ _
    clear o M y I H T hp
    unfold YM at Y z1 z2 z3 z4 Z
    go_wp2
    exact bodyPost_ret (v:=.agg #[.int .i64 k,.string (za t),.bool D,.int .i64 le,.bool E,.string (za m)]) (by simp [results,Tryz.results37,go_sem,Y,z1,z2,z3,z4,Z]) rfl ⟨by rw [HF.out];rfl,HZ.out⟩
   | false =>
    go_wp2
    refine ⟨⟨i+1,by omega,by go_num,fun j h hj=>?_,Q.out⟩,by simp [intOf];omega⟩
    by_cases hji:j<i
    ·exact HN.out j h hji
    ·obtain rfl:j=i:=by omega
     obtain ⟨h',U⟩:=HR.out;rw [U];exact hp
  ·obtain rfl:i=17:=by omega
   obtain ⟨e0,e1,e2,e3,e4,e5,ef⟩:=zG pr;have HF:Hid (findQ p=y5):=XJ fun j h=>L j h (by rw [xG] at h;exact h)
   obtain ⟨Y,z1,z2,z3,z4,Z,-⟩:=zG (yv pr (.int .i64 0) (.string ⟨#[]⟩) (.bool false) (.int .i64 0) (.bool false) (.string ⟨#[]⟩));have HZ:Hid (Below w.heap.size w (YM wr B (.int .i64 0) (.string ⟨#[]⟩) (.bool false) (.int .i64 0) (.bool false) (.string ⟨#[]⟩))):=yx (yb o z) (by omega) _ _ _ _ _ _
   clear L z o M y I H qr pr
   unfold YM at Y z1 z2 z3 z4 Z
   go_wp2
   exact bodyPost_ret (v:=.agg #[.int .i64 0,.string ⟨#[]⟩,.bool false,.int .i64 0,.bool false,.string ⟨#[]⟩]) (by simp [results,Tryz.results37,go_sem,Y,z1,z2,z3,z4,Z]) rfl ⟨by rw [HF.out];rfl,HZ.out⟩
theorem y8 (w:World) (A:Obj):∃w1,w1=w.alloc A∧Below w.heap.size w w1∧w1.heap.size=w.heap.size+1∧w1.heap[w.heap.size]?=some A :=
 ⟨_,rfl,(Below.refl _ _).alloc (Nat.le_refl _) _,by simp,World.alloc_heap_new _ _⟩
theorem Qn (w:World) (A B:Obj):∃w1,w1=(w.alloc A).alloc B∧Below w.heap.size w w1∧w1.heap.size=w.heap.size+2∧w1.heap[w.heap.size]?=some A∧w1.heap[w.heap.size+1]?=some B :=
 ⟨_,rfl,((Below.refl _ _).alloc (Nat.le_refl _) _).alloc (by simp) _,by simp,by rw [Below.heap_alloc _ _ _ (by simp)];exact World.alloc_heap_new _ _,by
  have:=World.alloc_heap_new (w.alloc A) B
  simpa using this⟩
theorem ue (k:Int) (g:Nat) (r:Wq) (w:World) (h:w.cell? ⟨g,0,none⟩=some (.int .i64 k)) :
  Calls Tryz.prog 51 #[wV r,.pointer (some ⟨g,0,none⟩)] w fun e w'=>e=.returned (.bool (decide (r.1=k)))∧Below w.heap.size w w':=by
 obtain ⟨a,b,c,d,e,f⟩:=r
 unfold wV
 have y:g<w.heap.size:=World.block_lt_of_cell? w _ h;have z:∀o,(w.alloc o).cell? ⟨g,0,none⟩=some (.int .i64 k):=fun o=>by rw [World.cell?_alloc_lt _ _ _ y];exact h
 clear h
 go_enter Tryz.func51,Tryz.ntmps51
 go_wp2
 go_ret
 exact ⟨by rw [show (a==k)=decide (a=k) by by_cases h:a=k <;> simp [h]];rfl,(Below.refl _ w).alloc (Nat.le_refl _) _⟩
theorem XK (k:Int) (w:World) :
  Calls Tryz.prog 24 #[.int .i64 k] w fun e w'=>e=.returned (wV (ofKind k))∧Below w.heap.size w w':=by
 have X:∀(fn:Fn) (first cap:Array Value) (w:World),(Instr.makeFunc fn first cap).run Tryz.prog w=.ok (.func fn first cap) w:=fun _ _ _ _=>rfl
 obtain ⟨E,D,h,o,L,A⟩:=Qn w (.cells #[.int .i64 k] 22 (0,0)) (.cells #[.int .i64 0,.string ⟨#[]⟩,.bool false,.int .i64 0,.bool false,.string ⟨#[]⟩] 55 (0,0));have H:=qp (fun r=>decide (r.1=k)) w.heap.size E fun r W hW=>ue k w.heap.size r W ((Xe hW (by omega)).trans (Zq L).1)
 have U:Hid (E.heap[w.heap.size+1]?=some (.cells #[.int .i64 0,.string ⟨#[]⟩,.bool false,.int .i64 0,.bool false,.string ⟨#[]⟩] 55 (0,0))∧Below w.heap.size w E∧E.heap.size=w.heap.size+2):=⟨A,h,o⟩;have z:=D.symm;clear D h o L A
 go_enter Tryz.func24,Tryz.ntmps24
 go_wp2_with fail
 refine H.mono ?_;clear H z;rintro e M ⟨rfl,y⟩;obtain ⟨A,h,o⟩:=U.out;have G:M.heap[w.heap.size+1]?=_:=(y.block _ (by omega)).trans A
 obtain ⟨e0,e1,Z,Y,e4,e5,ef⟩:=zG G;have I:Hid (findQ (fun r=>decide (r.1=k))=ofKind k):=rfl
 generalize findQ (fun r=>decide (r.1=k))=R at I ⊢
 obtain ⟨a,b,c,d,f,g⟩:=R;obtain ⟨O,T,K,N,J,Q,-⟩:=zG (yv G (.int .i64 a) (.string (za b)) (.bool c) (.int .i64 d) (.bool f) (.string (za g)));have V:Hid (Below w.heap.size w (YM M (w.heap.size+1) (.int .i64 a) (.string (za b)) (.bool c) (.int .i64 d) (.bool f) (.string (za g)))):=yx (yb h y) (by omega) _ _ _ _ _ _
 clear A h o G y
 unfold YM at O T K N J Q
 unfold wV
 simp only;go_wp2
 exact bodyPost_ret (v:=.agg #[.int .i64 a,.string (za b),.bool c,.int .i64 d,.bool f,.string (za g)]) (by simp [results,Tryz.results24,go_sem,O,T,K,N,J,Q]) rfl ⟨by rw [←I.out];rfl,V.out⟩
theorem qb3 (w:World) (A B C:Obj):Below w.heap.size w (((w.alloc A).alloc B).alloc C):=(((Below.refl _ w).alloc (Nat.le_refl _) _).alloc (by simp) _).alloc (by simp;omega) _
theorem za7 (w:World) (A B C:Obj) (j:Nat) (v:Value):Below w.heap.size w ((((w.alloc A).alloc B).alloc C).setCell ⟨w.heap.size+1+1,j,none⟩ v):=(qb3 w A B C).setCell (by simp;omega) _
theorem za8 (w:World) (A B C:Obj) (j i:Nat) (v u:Value):Below w.heap.size w (((((w.alloc A).alloc B).alloc C).setCell ⟨w.heap.size+1+1,j,none⟩ v).setCell ⟨w.heap.size+1+1,i,none⟩ u):=(za7 w A B C j v).setCell (by simp;omega) _
theorem Um (r:Wq) (k n:Int) (s:List UInt8) (w:World) :
  Calls Tryz.prog 31 #[wV r,yJ k n s] w fun e w'=>e=.returned (.bool (decide (k=r.1∧(r.2.2.1=false→n=0)∧(r.2.2.2.2.1=false→s=[]))))∧Below w.heap.size w w':=by
 obtain ⟨a,b,c,d,f,g⟩:=r
 unfold wV yJ
 simp only
 cases c <;> cases f <;> (go_enter Tryz.func31,Tryz.ntmps31;go_wp2)
 all_goals
  go_ret
  exact ⟨by simp_all,by first | exact qb3 _ _ _ _ | exact za7 _ _ _ _ _ _ | exact za8 _ _ _ _ _ _ _ _⟩
theorem Qo (r:Wq) (n:Int) (w:World) :
  Calls Tryz.prog 32 #[wV r,.int .i64 n] w fun e w'=>e=.returned (.bool (decide (r.2.2.1=true→r.2.2.2.1≤n∧n≤4294967296)))∧Below w.heap.size w w':=by
 obtain ⟨a,b,c,d,f,g⟩:=r
 unfold wV
 simp only
 cases c <;> (go_enter Tryz.func32,Tryz.ntmps32;go_wp2)
 all_goals
  go_ret
  refine ⟨?_,(Below.refl _ w).alloc (Nat.le_refl _) _⟩
  first | (simp_all;done) | (simp_all;omega)
def Qp:List Value:=tabQ.map fun r=>.string (za r.2.1)
theorem Qq (j:Nat) (hj:j<17):Qp[j]?=some (.string (za (ofKind ((j:Int)+1)).2.1)):=by
 have h:j=0∨j=1∨j=2∨j=3∨j=4∨j=5∨j=6∨j=7∨j=8∨j=9∨j=10∨j=11∨j=12∨j=13∨j=14∨j=15∨j=16:=by omega
 rcases h with rfl | rfl | rfl | rfl | rfl | rfl | rfl | rfl | rfl | rfl | rfl | rfl | rfl | rfl | rfl | rfl | rfl <;> rfl
theorem Vb (j:Nat) (hj:j<17) (w:World) :
  Calls Tryz.prog 29 #[.int .i64 ((j:Int)+1)] w fun e w'=>e=.returned (.string (za (ofKind ((j:Int)+1)).2.1))∧Below w.heap.size w w':=by
 obtain ⟨E,y,o,z,D⟩:=y8 w (.cells Qp.toArray 9 (0,0))
 have J:E.cell? ⟨w.heap.size,j,none⟩=some (.string (za (ofKind ((j:Int)+1)).2.1)):=by
  simp only [World.cell?,D]
  have:=Qq j hj
  simpa using this
 have G:(j:Int)<17:=by omega
 have A:Hid (Below w.heap.size w E):=o;have h:=y.symm;have H:IntKind.i64.wrap ((j:Int)+1-1)=j:=by rw [IntKind.wrap_i64];omega
 have I:(j:Int)+1-1=j:=by omega
 clear y o z D
 unfold Qp tabQ at h
 simp only [List.map_cons,List.map_nil] at h
 go_enter Tryz.func29,Tryz.ntmps29
 go_wp2
 go_ret
 exact ⟨rfl,A.out⟩
def YT (c:Int × Int × List UInt8):List Value:=[.int .i64 c.1,.int .i64 c.2.1,.string (za c.2.2)]
def cmdC (cs:List (Int × Int × List UInt8)):List Value:=cs.flatMap YT
theorem XL (cs:List (Int × Int × List UInt8)):(cmdC cs).length=cs.length*3:=by
 induction cs with
 | nil=>rfl
 | cons c r ih =>
  have:cmdC (c::r)=YT c++cmdC r:=rfl
  rw [this,List.length_append,ih,List.length_cons];show 3+_=_
  omega
theorem zaj (cs:List (Int × Int × List UInt8)):∀(i:Nat) (h:i<cs.length) (j:Nat),j<3→(cmdC cs)[i*3+j]?=(YT cs[i])[j]?:=by
 induction cs with
 | nil=>intro i h;simp at h
 | cons c r ih =>
  intro i h j y;have e:cmdC (c::r)=YT c++cmdC r:=rfl;have o:(YT c).length=3:=rfl;rw [e];cases i with
  | zero=>rw [Nat.zero_mul,Nat.zero_add,List.getElem?_append_left (by rw [o];exact y)];rfl
  | succ i =>
   rw [List.getElem?_append_right (by rw [o];omega),o,show (i+1)*3+j-3=i*3+j by omega]
   exact ih i (by simpa using h) j y
theorem Qr (a b:List (Int × Int × List UInt8)):cmdC (a++b)=cmdC a++cmdC b:=by unfold cmdC;simp
theorem uf (cs:List (Int × Int × List UInt8)):∀u∈cmdC cs,u.oneCell'=true:=by
 intro u e
 unfold cmdC at e
 rw [List.mem_flatMap] at e;obtain ⟨c,-,h⟩:=e
 simp [YT] at h
 rcases h with rfl | rfl | rfl <;> rfl
theorem qq:(Tryz.prog.info? 24).map (fun i=>(i.zero,i.size,i.bytes))=some (some (.agg #[.int .i64 0,.int .i64 0,.string ⟨#[]⟩]),3,32):=by kernel_rfl
abbrev xw (B:Nat) (w:World) (v:Value) (cs:List (Int × Int × List UInt8)):Prop:=w.ownsRow B 24 3 v cs.length (cmdC cs)
theorem Qs (w:World) (B:Nat) (cs:List (Int × Int × List UInt8)) (hB:B≤w.heap.size) (hl:cs.length≤maxLen):xw B (w.alloc (.cells (cmdC cs).toArray 24 (0,0))) (.slice (some ⟨w.heap.size,0,none⟩) cs.length cs.length) cs :=
 ⟨XL cs,.inr ⟨w.heap.size,cs.length,(cmdC cs).toArray,rfl,hB,World.alloc_heap_new _ _,Nat.le_refl _,hl,by simp [XL],by simp [←XL]⟩⟩
theorem VC {B:Nat} {w:World} {v:Value} {cs:List (Int × Int × List UInt8)} (h:xw B w v cs) (hne:0<cs.length) :
  ∃g o,v=.slice (some ⟨g,0,none⟩) cs.length o∧B≤g∧g<w.heap.size∧∀i (hi:i<cs.length),w.cell? ⟨g,i*3,none⟩=some (.int .i64 cs[i].1)∧w.cell? ⟨g,i*3+1,none⟩=some (.int .i64 cs[i].2.1)∧w.cell? ⟨g,i*3+2,none⟩=some (.string (za cs[i].2.2)):=by
 rcases h.2 with ⟨-,I⟩ | ⟨g,o,D,G,E,z,K,J,H,A⟩
 ·omega
 ·have y:∀i (hi:i<cs.length) j u,j<3→(YT cs[i])[j]?=some u→w.cell? ⟨g,i*3+j,none⟩=some u:=fun i hi j u hj hu=>by
   have e:=zaj cs i hi j hj;rw [hu,←A,List.getElem?_take,if_pos (by omega)] at e
   simp only [World.cell?,z]
   simpa using e
  exact ⟨g,o,G,E,y7 z,fun i hi=>⟨y i hi 0 _ (by omega) rfl,y i hi 1 _ (by omega) rfl,y i hi 2 _ (by omega) rfl⟩⟩
theorem ug (w:World) (c:Int × Int × List UInt8):∀j u,(YT c)[j]?=some u→(w.alloc (.cells (YT c).toArray 24 (0,0))).cell? ((⟨w.heap.size,0,none⟩:Addr).add j)=some u:=fun j u h=>by
 rw [qm];have e:(w.alloc (.cells (YT c).toArray 24 (0,0))).heap[w.heap.size]?=some (.cells (YT c).toArray 24 (0,0)):=World.alloc_heap_new _ _;simp only [World.cell?,e]
 simpa using h
theorem qs {B:Nat} {w w':World} {v:Value} {cs:List (Int × Int × List UInt8)} (h:xw B w v cs) (hb:Below w.heap.size w w'):xw B w' v cs:=by
 refine ⟨h.1,?_⟩;rcases h.2 with D | ⟨g,e,o,A,z,y,r⟩
 ·exact .inl D
 ·exact .inr ⟨g,e,o,A,z,(hb.block _ (y7 y)).trans y,r⟩
end Go.Proofs.YtmbofhpmockmbaaGreatDoor
