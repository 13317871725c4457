import Derived.Test.YtmbofhpmockmbaaGreatDoorWAll
import Derived.Lib.Strings
import Derived.Laws.DeepStrings4
import Derived.Test.YtmbofhpmockmbaaGreatDoorQMath
import Derived.Test.YtmbofhpmockmbaaGreatDoorShelf
import Derived.LoopN
import Derived.RangeFuncRecord
namespace Go.Proofs.YtmbofhpmockmbaaGreatDoor
open Go.RowKit
set_option maxHeartbeats 16000000
set_option maxRecDepth 100000
abbrev za (l:List UInt8):ByteArray:=⟨l.toArray⟩
theorem zZ (l:List UInt8):(za l).size=l.length:=rfl
theorem yG (l:List UInt8) (a b:Nat):(za l).extract a b=za ((l.drop a).take (b-a)):=by
 have e:=Lib.extract_data (za l) a b;have o:(za l).data.toList=l:=rfl;rw [o] at e;show _=(⟨_⟩:ByteArray)
 rw [←e]
theorem yW (w:World) (l:List UInt8) (a:Nat) (h:a≤l.length) :
  (Instr.slice 9 (.string (za l)) (some (.int .i64 (a:Int))) none none).run Tryz.prog w=.ok (.string (za (l.drop a))) w:=by
 rw [run_slice_string_from_if (P:=Tryz.prog) (w:=w) 9 (za l) .i64 _ Tryz.underlying9,if_pos ⟨by omega,by rw [zZ];omega⟩]
 rw [Int.toNat_natCast,yG,zZ,List.take_of_length_le (by rw [List.length_drop];omega)]
theorem Vd (w:World) (l:List UInt8) (b:Nat) (h:b≤l.length) :
  (Instr.slice 9 (.string (za l)) none (some (.int .i64 (b:Int))) none).run Tryz.prog w=.ok (.string (za (l.take b))) w:=by
 rw [run_slice_string_to_if (P:=Tryz.prog) (w:=w) 9 (za l) .i64 _ Tryz.underlying9,if_pos ⟨by omega,by rw [zZ];omega⟩]
 rw [Int.toNat_natCast,yG,List.drop_zero,Nat.sub_zero]
theorem UO (w:World) (l:List UInt8) (a n:Nat) (h:a+n≤l.length) :
  (Instr.slice 9 (.string (za l)) (some (.int .i64 (a:Int))) (some (.int .i64 ((a:Int)+(n:Int)))) none).run Tryz.prog w=.ok (.string (za ((l.drop a).take n))) w:=by
 rw [run_slice_string_if (P:=Tryz.prog) (w:=w) 9 (za l) .i64 .i64 _ _ Tryz.underlying9,if_pos ⟨by omega,by rw [zZ];omega⟩,if_pos ⟨by omega,by omega⟩]
 have o:((a:Int)+(n:Int)).toNat=a+n:=by omega
 rw [o,Int.toNat_natCast,yG,show a+n-a=n by omega]
end Go.Proofs.YtmbofhpmockmbaaGreatDoor
namespace Go.Proofs.YtmbofhpmockmbaaGreatDoor
open Go.RowKit Go.Shelf
set_option maxHeartbeats 16000000
set_option maxRecDepth 100000
theorem ZA {w w2 w':World} (hb2:Below w.heap.size w w2) (h2:Below w2.heap.size w2 w'):Below w.heap.size w w':=hb2.trans (h2.mono hb2.size)
theorem YW {n:Nat} {w w':World} (h:Below n w w') {g j:Nat} (hg:g<n):w'.cell? ⟨g,j,none⟩=w.cell? ⟨g,j,none⟩:=World.cell?_of_block (h.block g hg)
theorem Zl {w:World} {N:Nat} {o:Obj} (h:w.heap[N]?=some o):N<w.heap.size:=(Array.getElem?_eq_some_iff.1 h).1
theorem zV {w:World} {N:Nat} {x0:Value} {ty:TypeId} (h:w.heap[N]?=some (.cells #[x0] ty (0,0))) :
  w.cell? ⟨N,0,none⟩=some x0∧∀j,w.frozen? ⟨N,j,none⟩=false:=by
 exact ⟨by simp only [World.cell?,h];rfl,fun j=>by simp only [World.frozen?,h];simp⟩
theorem ze {w:World} {N:Nat} {x0 x1 x2:Value} {ty:TypeId} (h:w.heap[N]?=some (.cells #[x0,x1,x2] ty (0,0))) :
  w.cell? ⟨N,0,none⟩=some x0∧w.cell? ⟨N,1,none⟩=some x1∧w.cell? ⟨N,2,none⟩=some x2∧∀j,w.frozen? ⟨N,j,none⟩=false:=by
 exact ⟨by simp only [World.cell?,h];rfl,by simp only [World.cell?,h];rfl,by simp only [World.cell?,h];rfl,fun j=>by simp only [World.frozen?,h];simp⟩
theorem zu {w:World} {N:Nat} {x0 x1 x2 x3 x4 x5:Value} {ty:TypeId} (h:w.heap[N]?=some (.cells #[x0,x1,x2,x3,x4,x5] ty (0,0))) :
  w.cell? ⟨N,0,none⟩=some x0∧w.cell? ⟨N,1,none⟩=some x1∧w.cell? ⟨N,2,none⟩=some x2∧w.cell? ⟨N,3,none⟩=some x3∧w.cell? ⟨N,4,none⟩=some x4∧w.cell? ⟨N,5,none⟩=some x5∧∀j,w.frozen? ⟨N,j,none⟩=false:=by
 exact ⟨by simp only [World.cell?,h];rfl,by simp only [World.cell?,h];rfl,by simp only [World.cell?,h];rfl,by simp only [World.cell?,h];rfl,by simp only [World.cell?,h];rfl,by simp only [World.cell?,h];rfl,fun j=>by simp only [World.frozen?,h];simp⟩
def wC (r:Wq):List Value:=[.int .i64 r.1,.string (za r.2.1),.bool r.2.2.1,.int .i64 r.2.2.2.1,.bool r.2.2.2.2.1,.string (za r.2.2.2.2.2)]
def wV (r:Wq):Value:=.agg #[.int .i64 r.1,.string (za r.2.1),.bool r.2.2.1,.int .i64 r.2.2.2.1,.bool r.2.2.2.2.1,.string (za r.2.2.2.2.2)]
def ZH (k n:Int) (s:List UInt8):Value:=.agg #[.int .i64 k,.int .i64 n,.string (za s)]
def qy:List Value:=tabQ.flatMap wC
def yH:Obj:=.cells qy.toArray 55 (0,0)
theorem YA:tabQ.length=17:=rfl
theorem qg (i:Nat) (hi:i<tabQ.length):∀j (u:Value),(wC tabQ[i])[j]?=some u→qy[i*6+j]?=some u:=by
 have h:i=0∨i=1∨i=2∨i=3∨i=4∨i=5∨i=6∨i=7∨i=8∨i=9∨i=10∨i=11∨i=12∨i=13∨i=14∨i=15∨i=16:=by rw [YA] at hi;omega
 intro j u o
 have z:j<6:=by
  have:=(List.getElem?_eq_some_iff.1 o).1
  simpa [wC] using this
 have y:j=0∨j=1∨j=2∨j=3∨j=4∨j=5:=by omega
 rcases h with rfl | rfl | rfl | rfl | rfl | rfl | rfl | rfl | rfl | rfl | rfl | rfl | rfl | rfl | rfl | rfl | rfl <;> rcases y with rfl | rfl | rfl | rfl | rfl | rfl <;> exact o
theorem Xl {w:World} {g:Nat} (h:w.heap[g]?=some yH) (i:Nat) (hi:i<tabQ.length):∃k t hn le hs m,tabQ[i]=(k,t,hn,le,hs,m) ∧
  w.cell? ⟨g,i*6,none⟩=some (.int .i64 k)∧w.cell? ⟨g,i*6+1,none⟩=some (.string (za t))∧w.cell? ⟨g,i*6+2,none⟩=some (.bool hn)∧w.cell? ⟨g,i*6+3,none⟩=some (.int .i64 le)∧w.cell? ⟨g,i*6+4,none⟩=some (.bool hs)∧w.cell? ⟨g,i*6+5,none⟩=some (.string (za m)):=by
 have o:∀j u,(wC tabQ[i])[j]?=some u→w.cell? ⟨g,i*6+j,none⟩=some u:=fun j u hu=>by
  have:=qg i hi j u hu
  simp only [World.cell?,h,yH]
  simpa using this
 refine ⟨tabQ[i].1,tabQ[i].2.1,tabQ[i].2.2.1,tabQ[i].2.2.2.1,tabQ[i].2.2.2.2.1,tabQ[i].2.2.2.2.2,rfl,o 0 _ rfl,o 1 _ rfl,o 2 _ rfl,o 3 _ rfl,o 4 _ rfl,o 5 _ rfl⟩
theorem Xm {p:Wq→Bool} {i:Nat} (hi:i<tabQ.length) (hno:∀j (h:j<tabQ.length),j<i→p tabQ[j]=false) (hp:p tabQ[i]=true):findQ p=tabQ[i]:=by
 unfold findQ
 have:tabQ.find? p=some tabQ[i]:=by
  rw [List.find?_eq_some_iff_getElem];exact ⟨hp,i,hi,rfl,fun j hj=>by simpa using hno j (by omega) hj⟩
 rw [this];rfl
theorem xq {p:Wq→Bool} (hno:∀j (h:j<tabQ.length),p tabQ[j]=false):findQ p=yU:=by
 unfold findQ
 have:tabQ.find? p=none:=by
  rw [List.find?_eq_none];intro x y;obtain ⟨j,o,rfl⟩:=List.mem_iff_getElem.1 y
  simpa using hno j o
 rw [this];rfl
theorem YH {w:World} {b:Nat} {cs:Array Value} {ty:TypeId} {fz:Nat × Nat} (h:w.heap[b]?=some (.cells cs ty fz)) {j:Nat} (v:Value):(w.setCell ⟨b,j,none⟩ v).heap[b]?=some (.cells (cs.setIfInBounds j v) ty fz):=by
 unfold World.setCell
 simp [Array.getElem?_modify,h]
def zM (w:World) (N:Nat) (a b c:Value):World:=((w.setCell ⟨N,0,none⟩ a).setCell ⟨N,1,none⟩ b).setCell ⟨N,2,none⟩ c
def yM (w:World) (N:Nat) (a b c d e f:Value):World:=(((((w.setCell ⟨N,0,none⟩ a).setCell ⟨N,1,none⟩ b).setCell ⟨N,2,none⟩ c).setCell ⟨N,3,none⟩ d).setCell ⟨N,4,none⟩ e).setCell ⟨N,5,none⟩ f
theorem zI {w:World} {N:Nat} {x0 x1 x2:Value} {ty:TypeId} (h:w.heap[N]?=some (.cells #[x0,x1,x2] ty (0,0))) (a b c:Value):(zM w N a b c).heap[N]?=some (.cells #[a,b,c] ty (0,0)) :=
 YH (YH (YH h a) b) c
theorem ZW {w:World} {N:Nat} {x0 x1 x2 x3 x4 x5:Value} {ty:TypeId} (h:w.heap[N]?=some (.cells #[x0,x1,x2,x3,x4,x5] ty (0,0))) (a b c d e f:Value):(yM w N a b c d e f).heap[N]?=some (.cells #[a,b,c,d,e,f] ty (0,0)) :=
 YH (YH (YH (YH (YH (YH h a) b) c) d) e) f
theorem zN {w0 w:World} {n N:Nat} (hb:Below n w0 w) (h:n≤N) (a b c:Value):Below n w0 (zM w N a b c) :=
 ((hb.setCell (p:=⟨N,0,none⟩) h _).setCell (p:=⟨N,1,none⟩) h _).setCell (p:=⟨N,2,none⟩) h _
theorem ZX {w0 w:World} {n N:Nat} (hb:Below n w0 w) (h:n≤N) (a b c d e f:Value):Below n w0 (yM w N a b c d e f) :=
 (((((hb.setCell (p:=⟨N,0,none⟩) h _).setCell (p:=⟨N,1,none⟩) h _).setCell (p:=⟨N,2,none⟩) h _).setCell (p:=⟨N,3,none⟩) h _).setCell (p:=⟨N,4,none⟩) h _).setCell (p:=⟨N,5,none⟩) h _
theorem Xn (w:World):Calls Tryz.prog 58 #[] w fun e w'=>e=.returned (.slice (some ⟨w.heap.size,0,none⟩) 17 17)∧w'=w.alloc yH:=by
 go_enter Tryz.func58,Tryz.ntmps58
 go_wp2
 go_ret
 exact ⟨rfl,rfl⟩
theorem ub (p:Wq→Bool) (g:Nat) (w:World)
  (hk:∀r W,Below w.heap.size w W→Calls Tryz.prog 51 #[wV r,.pointer (some ⟨g,0,none⟩)] W fun e w'=>e=.returned (.bool (p r))∧Below W.heap.size W w') :
  Calls Tryz.prog 37 #[.func (.func 51) #[] #[.pointer (some ⟨g,0,none⟩)]] w fun e w'=>e=.returned (wV (findQ p))∧Below w.heap.size w w':=by
 have HK:Hid (∀r W,Below w.heap.size w W→Calls Tryz.prog 51 #[wV r,.pointer (some ⟨g,0,none⟩)] W fun e w'=>e=.returned (.bool (p r))∧Below W.heap.size W w'):=hk
 obtain ⟨w1,D⟩:∃w1,w1=w.alloc (.cells #[.int .i64 0,.string ⟨#[]⟩,.bool false,.int .i64 0,.bool false,.string ⟨#[]⟩] 55 (0,0)):=⟨_,rfl⟩;have ae:Below w.heap.size w w1:=by rw [D];exact (Below.refl _ w).alloc (Nat.le_refl _) _
 have O:w1.heap.size=w.heap.size+1:=by rw [D];simp
 have p1:w1.heap[w.heap.size]?=some (.cells #[.int .i64 0,.string ⟨#[]⟩,.bool false,.int .i64 0,.bool false,.string ⟨#[]⟩] 55 (0,0)):=by rw [D];exact World.alloc_heap_new w _
 have cw:=Xn w1;have ad:=D.symm;clear hk D
 go_enter Tryz.func37,Tryz.ntmps37
 go_wp2_with fail
 refine cw.mono ?_;clear cw ad;rintro e w2 ⟨rfl,J⟩;have y:w2.heap.size=w.heap.size+2:=by rw [J];simp [O]
 have o:Below w1.heap.size w1 w2:=by rw [J];exact (Below.refl _ w1).alloc (Nat.le_refl _) _
 have H:w2.heap[w1.heap.size]?=some yH:=by rw [J];exact World.alloc_heap_new w1 _
 have I:w2.heap[w.heap.size]?=some (.cells #[.int .i64 0,.string ⟨#[]⟩,.bool false,.int .i64 0,.bool false,.string ⟨#[]⟩] 55 (0,0)):=(o.block _ (by omega)).trans p1
 rw [O] at H ⊢;obtain ⟨B,M⟩:∃B,B=w.heap.size:=⟨_,rfl⟩;rw [←M] at H I y ⊢;have ag:Hid (Below w.heap.size w w2∧w.heap.size=B∧w2.heap.size=B+2):=⟨ZA ae o,M.symm,y⟩;have aa:Hid (w2.heap[B+1]?=some yH∧w2.heap[B]?=some (.cells #[.int .i64 0,.string ⟨#[]⟩,.bool false,.int .i64 0,.bool false,.string ⟨#[]⟩] 55 (0,0))):=⟨H,I⟩;clear ae O p1 J y o H I M;go_wp2_with fail
 go_loopw [7] (fun vi wr=>∃i:Nat,i≤17∧vi=.int .i64 i∧(∀j (h:j<tabQ.length),j<i→p tabQ[j]=false)∧Below w2.heap.size w2 wr) (fun vi _=>17-(intOf vi).toNat)
 case atStart=>exact ⟨0,Nat.zero_le _,rfl,fun j h hj=>by omega,Below.refl _ _⟩
 case round =>
  obtain ⟨i,hi,rfl,K,z⟩:=hrel;have HN:Hid (∀j (h:j<tabQ.length),j<i→p tabQ[j]=false):=K;have ah:Hid (Below w2.heap.size w2 wr):=z;obtain ⟨o,M,y⟩:=ag.out;obtain ⟨H,I⟩:=aa.out;have qr:wr.heap[B+1]?=some yH:=(z.block _ (by omega)).trans H
  have pr:wr.heap[B]?=some (.cells #[.int .i64 0,.string ⟨#[]⟩,.bool false,.int .i64 0,.bool false,.string ⟨#[]⟩] 55 (0,0)):=(z.block _ (by omega)).trans I
  by_cases hlt:i<17
  ·have aj:(i:Int)<17:=by omega
   obtain ⟨k,t,G,le,E,m,V,c0,c1,c2,c3,c4,c5⟩:=Xl qr i (by rw [YA];exact hlt)
   obtain ⟨w3,L⟩:∃w3,w3=wr.alloc (.cells #[.int .i64 k,.string (za t),.bool G,.int .i64 le,.bool E,.string (za m)] 55 (0,0)):=⟨_,rfl⟩;have A:Below wr.heap.size wr w3:=by rw [L];exact (Below.refl _ wr).alloc (Nat.le_refl _) _
   have Q:w3.heap[wr.heap.size]?=some (.cells #[.int .i64 k,.string (za t),.bool G,.int .i64 le,.bool E,.string (za m)] 55 (0,0)):=by rw [L];exact World.alloc_heap_new wr _
   have af:Below w.heap.size w w3:=ZA (ZA o z) A;have cc:=HK.out (k,t,G,le,E,m) w3 af;have HR:Hid (∃h:i<tabQ.length,tabQ[i]=(k,t,G,le,E,m)):=⟨_,V⟩;have ai:Hid (w3.heap[wr.heap.size]?=some (.cells #[.int .i64 k,.string (za t),.bool G,.int .i64 le,.bool E,.string (za m)] 55 (0,0))∧Below wr.heap.size wr w3):=⟨Q,A⟩;have ab:=L.symm;obtain ⟨d0,d1,d2,d3,d4,d5,-⟩:=zu Q;clear K z o M y H I qr pr V A Q af L
   unfold wV at cc
   simp only at cc;go_wp2_with fail
   refine cc.mono ?_;clear cc d0 d1 d2 d3 d4 d5 c0 c1 c2 c3 c4 c5 ab;rintro e w4 ⟨rfl,T⟩;obtain ⟨Q,A⟩:=ai.out;have U:w4.heap[wr.heap.size]?=some (.cells #[.int .i64 k,.string (za t),.bool G,.int .i64 le,.bool E,.string (za m)] 55 (0,0)):=(T.block _ (Zl Q)).trans Q;obtain ⟨d0,d1,d2,d3,d4,d5,-⟩:=zu U;have R:Hid (Below w2.heap.size w2 w4):=ZA ah.out (ZA A T);clear Q A T U;cases hp:p (k,t,G,le,E,m) with
   | true =>
    have HF:Hid (findQ p=(k,t,G,le,E,m)):=by
     obtain ⟨h,V⟩:=HR.out;rw [←V] at hp ⊢;exact Xm h HN.out hp
    obtain ⟨o,M,y⟩:=ag.out;obtain ⟨H,I⟩:=aa.out;have U:w4.heap[B]?=some (.cells #[.int .i64 0,.string ⟨#[]⟩,.bool false,.int .i64 0,.bool false,.string ⟨#[]⟩] 55 (0,0)):=(R.out.block _ (by omega)).trans I
    obtain ⟨e0,e1,e2,e3,e4,e5,ef⟩:=zu U;obtain ⟨z0,z1,z2,Y,X,Z,-⟩:=zu (ZW U (.int .i64 k) (.string (za t)) (.bool G) (.int .i64 le) (.bool E) (.string (za m)));have HZ:Hid (Below w.heap.size w (yM w4 B (.int .i64 k) (.string (za t)) (.bool G) (.int .i64 le) (.bool E) (.string (za m)))):=ZX (ZA o R.out) (by omega) _ _ _ _ _ _
    clear o M y H I U hp
    unfold yM at z0 z1 z2 Y X Z
    go_wp2
    exact bodyPost_ret (v:=.agg #[.int .i64 k,.string (za t),.bool G,.int .i64 le,.bool E,.string (za m)]) (by simp [results,Tryz.results37,go_sem,z0,z1,z2,Y,X,Z]) rfl ⟨by rw [HF.out];rfl,HZ.out⟩
   | false =>
    go_wp2
    refine ⟨⟨i+1,by omega,by go_num,fun j h hj=>?_,R.out⟩,by simp [intOf];omega⟩
    by_cases hji:j<i
    ·exact HN.out j h hji
    ·obtain rfl:j=i:=by omega
     obtain ⟨h',V⟩:=HR.out;rw [V];exact hp
  ·obtain rfl:i=17:=by omega
   obtain ⟨e0,e1,e2,e3,e4,e5,ef⟩:=zu pr;have HF:Hid (findQ p=yU):=xq fun j h=>K j h (by rw [YA] at h;exact h)
   obtain ⟨z0,z1,z2,Y,X,Z,-⟩:=zu (ZW pr (.int .i64 0) (.string ⟨#[]⟩) (.bool false) (.int .i64 0) (.bool false) (.string ⟨#[]⟩));have HZ:Hid (Below w.heap.size w (yM wr B (.int .i64 0) (.string ⟨#[]⟩) (.bool false) (.int .i64 0) (.bool false) (.string ⟨#[]⟩))):=ZX (ZA o z) (by omega) _ _ _ _ _ _
   clear K z o M y H I qr pr
   unfold yM at z0 z1 z2 Y X Z
   go_wp2
   exact bodyPost_ret (v:=.agg #[.int .i64 0,.string ⟨#[]⟩,.bool false,.int .i64 0,.bool false,.string ⟨#[]⟩]) (by simp [results,Tryz.results37,go_sem,z0,z1,z2,Y,X,Z]) rfl ⟨by rw [HF.out];rfl,HZ.out⟩
end Go.Proofs.YtmbofhpmockmbaaGreatDoor
