import Derived.Test.YtcphojjpapgblaaGreatDoorMC4
import Derived.Test.YtcphojjpapgblaaGreatDoorMC5
import Derived.Test.YtcphojjpapgblaaGreatDoorXTk
import Derived.Shelf.Strings.Builder1
namespace Go.Proofs.YtcphojjpapgblaaGreatDoor
open Go.RowKit Go.Shelf
set_option maxHeartbeats 16000000
set_option maxRecDepth 100000
structure zc (r:Nat) (w w':World):Prop where
 os:w'.os=w.os
 tape:w'.tape=w.tape
 output:w'.output=w.output
 size:w.heap.size≤w'.heap.size
 block:∀k,k<w.heap.size→k≠r→w'.heap[k]?=w.heap[k]?
theorem zc.refl (r:Nat) (w:World):zc r w w:=⟨rfl,rfl,rfl,Nat.le_refl _,fun _ _ _=>rfl⟩
theorem zc.of {r:Nat} {w w':World} (h:Below w.heap.size w w'):zc r w w':=⟨h.os,h.tape,h.output,h.size,fun k hk _=>h.block k hk⟩
theorem zc.trans {r:Nat} {a b c:World} (h:zc r a b) (k:zc r b c):zc r a c :=
 ⟨k.os.trans h.os,k.tape.trans h.tape,k.output.trans h.output,Nat.le_trans h.size k.size,fun i hi hr=>(k.block i (Nat.lt_of_lt_of_le hi h.size) hr).trans (h.block i hi hr)⟩
theorem zc.alloc {r:Nat} {w w':World} (h:zc r w w') (ob:Obj):zc r w (w'.alloc ob) :=
 h.trans (.of ((Below.refl _ w').alloc (Nat.le_refl _) ob))
theorem zc.setCell {r:Nat} {w w':World} (h:zc r w w') (j:Nat) (v:Value):zc r w (w'.setCell ⟨r,j,none⟩ v):=by
 have o:=(Below.refl 0 w').setCell (p:=⟨r,j,none⟩) (by simp) v
 refine h.trans ⟨o.os,o.tape,o.output,o.size,fun k _ hr=>Below.heap_setCell _ _ _ _ (by simpa using hr)⟩
theorem zf.lt {r g o cap:Nat} {t:Tk} {ts:List Tk} {w:World} (h:zf r g o cap (t::ts) w):r<w.heap.size∧g<w.heap.size :=
 ⟨World.block_lt_of_cell? w _ h.cell,World.block_lt_of_cell? w _ (h.toks 0 (.int .i64 t.k) (by simp [ZD]))⟩
theorem zf.alloc {r g o cap:Nat} {t:Tk} {ts:List Tk} {w:World} (h:zf r g o cap (t::ts) w) (ob:Obj):zf r g o cap (t::ts) (w.alloc ob) :=
 h.keep (Below.heap_alloc w ob r h.lt.1) (Below.heap_alloc w ob g h.lt.2)
theorem Zy (r g o cap:Nat) (t:Tk) (ts:List Tk) (s:List UInt8) (w:World) (h:zf r g o cap (t::ts) w) (hne:zm t s=true→ts≠[]) :
  Calls Tryz.prog 50 #[.pointer (some ⟨r,0,none⟩),.string (zb s)] w fun e w'=>e=.returned (.bool (zm t s))∧zc r w w' ∧
   if zm t s=true then zf r g (o+5) (cap-1) ts w' else zf r g o cap (t::ts) w':=by
 have A:=zgG r g o cap t ts s w h;obtain ⟨w1,y⟩:∃w1,w1=(w.alloc (ZL t)).alloc (ZL t):=⟨_,rfl⟩;have D:zf r g o cap (t::ts) w1:=by rw [y];exact (h.alloc _).alloc _
 have z:zc r w w1:=by rw [y];exact ((zc.refl r w).alloc _).alloc _
 rw [←y] at A;have G:Hid (zf r g o cap (t::ts) w1):=D;have I:Hid (zc r w w1):=z;cases hi:zm t s
 ·clear hne h D z y
  rw [hi] at A
  go_enter Tryz.func50,Tryz.ntmps50
  go_wp2_with fail
  refine A.mono ?_;clear A;rintro e w' ⟨rfl,rfl⟩;go_wp2
  simp only [bodyPost,results,Tryz.results50]
  simp [I.out,G.out]
 ·have H:=Va r g o cap t ts w1 D (hne hi)
  clear hne h D z y;rw [hi] at A
  go_enter Tryz.func50,Tryz.ntmps50
  go_wp2_with fail
  refine A.mono ?_;clear A;rintro e w' ⟨rfl,rfl⟩;go_wp2_with fail
  refine H.mono ?_;clear H;rintro e w' ⟨rfl,rfl⟩;go_wp2
  simp only [bodyPost,results,Tryz.results50]
  simp [I.out.setCell,G.out.next]
abbrev ZG (at0:Nat):Ending:=.panicked [{ v:=QV 6 at0,recovered:=false }]
theorem yI (r g o cap:Nat) (t:Tk) (ts:List Tk) (s:List UInt8) (w:World) (h:zf r g o cap (t::ts) w) (hne:zm t s=true→ts≠[]) :
  Calls Tryz.prog 93 #[.pointer (some ⟨r,0,none⟩),.string (zb s)] w fun e w'=>zc r w w' ∧
   if zm t s=true then e=.returned (.tuple #[])∧zf r g (o+5) (cap-1) ts w' else e=ZG t.at0:=by
 have y:=Zy r g o cap t ts s w h hne;cases hi:zm t s
 ·clear hne h
  rw [hi] at y
  go_enter Tryz.func93,Tryz.ntmps93
  go_wp2_with fail
  refine y.mono ?_;clear y;rintro e w1 ⟨rfl,D,z⟩;have H:=Ux r g o cap t ts w1 (by simpa using z)
  have G:Hid (zc r w w1):=D;clear z D;go_wp2_with fail
  refine H.mono ?_;clear H;rintro e w' ⟨rfl,rfl⟩;go_wp2
  simp only [bodyPost]
  simp [G.out.alloc]
 ·clear hne h
  rw [hi] at y
  go_enter Tryz.func93,Tryz.ntmps93
  go_wp2_with fail
  refine y.mono ?_;clear y;rintro e w1 ⟨rfl,D,z⟩;have G:Hid (zc r w w1):=D;have A:zf r g (o+5) (cap-1) ts w1:=by simpa using z
  have I:Hid (zf r g (o+5) (cap-1) ts w1):=A;clear z A D;go_wp2
  simp only [bodyPost,results,Tryz.results93]
  simp [G.out,I.out]
theorem zhB (r g o cap:Nat) (t:Tk) (ts:List Tk) (w:World) (h:zf r g o cap (t::ts) w) :
  Calls Tryz.prog 48 #[.pointer (some ⟨r,0,none⟩)] w fun e w'=>zc r w w' ∧
   if t.k=0 then e=.returned (.tuple #[]) else e=ZG t.at0:=by
 have z:=Z8 r g o cap t ts w h;have I:=v8;obtain ⟨w1,y⟩:∃w1,w1=w.alloc (ZL t):=⟨_,rfl⟩;have D:zf r g o cap (t::ts) w1:=by rw [y];exact h.alloc _
 have G:Hid (zc r w w1):=by rw [y];exact (zc.refl r w).alloc _
 rw [←y] at z;have A:=Ux r g o cap t ts w1 D;clear h D y
 by_cases hk:t.k=0
 ·clear A
  simp only [hk,if_true]
  go_enter Tryz.func48,Tryz.ntmps48
  go_wp2_with fail
  refine z.mono ?_;clear z;rintro e w' ⟨rfl,rfl⟩;simp only [uJ,hk];go_wp2
  simp only [bodyPost,results,Tryz.results48]
  simp [G.out]
 ·have H:¬ (t.k:Int)=0:=by omega
  simp only [hk,if_false]
  go_enter Tryz.func48,Tryz.ntmps48
  go_wp2_with fail
  refine z.mono ?_;clear z;rintro e w' ⟨rfl,rfl⟩;simp only [uJ];go_wp2_with fail
  refine A.mono ?_;clear A;rintro e w' ⟨rfl,rfl⟩;go_wp2
  simp only [bodyPost]
  simp [G.out.alloc]
theorem xu (r g o cap:Nat) (t:Tk) (ts:List Tk) (w:World) (h:zf r g o cap (t::ts) w) (hne:t.k=1→ts≠[]) :
  Calls Tryz.prog 92 #[.pointer (some ⟨r,0,none⟩)] w fun e w'=>zc r w w' ∧
   if t.k=1 then e=.returned (.string (zb t.s))∧zf r g (o+5) (cap-1) ts w' else e=ZG t.at0:=by
 have G:=Z8 r g o cap t ts w h;obtain ⟨w2,z⟩:∃w2,w2=(w.alloc (ZL t)).alloc (ZL t):=⟨_,rfl⟩;have A:zf r g o cap (t::ts) w2:=by rw [z];exact (h.alloc _).alloc _
 have L:Hid (zc r w w2):=by rw [z];exact ((zc.refl r w).alloc _).alloc _
 have H:=Ux r g o cap t ts w2 A
 by_cases hk:t.k=1
 ·have J:=Va r g o cap t ts w2 A (hne hk)
  have N:Hid (zf r g o cap (t::ts) w2):=A;have D:(w.alloc (ZL t)).alloc (.cells #[.int .i64 1,.string (zb t.s),.int .i64 t.n,.int .i64 t.line,.int .i64 t.at0] 65)=w2:=by rw [z];simp [ZL,hk]
  have y:Hid ((w.alloc (ZL t)).alloc (.cells #[.int .i64 1,.string (zb t.s),.int .i64 t.n,.int .i64 t.line,.int .i64 t.at0] 65)=w2):=D;clear D
  have I:∀v,(w2.setCell ⟨r,0,none⟩ v).cell? ⟨w.heap.size+1,1,none⟩=some (.string (zb t.s)):=fun v=>by
   rw [World.cell?_setCell_other _ _ _ _ (by simp),z]
   have O:(w.alloc (ZL t)).heap.size=w.heap.size+1:=by simp
   have:=World.alloc_heap_new (w.alloc (ZL t)) (ZL t)
   rw [O] at this;simp only [World.cell?,this]
   rfl
  clear H h A z;simp only [hk,if_true]
  go_enter Tryz.func92,Tryz.ntmps92
  go_wp2_with fail
  refine G.mono ?_;clear G;rintro e w' ⟨rfl,rfl⟩;simp only [uJ];go_wp2_with fail
  rw [y.out];clear y;refine J.mono ?_;clear J;rintro e w' ⟨rfl,rfl⟩;go_wp2
  simp only [bodyPost,results,Tryz.results92]
  simp [L.out.setCell,N.out.next]
 ·have Q:¬ (t.k:Int)=1:=by omega
  have y:Hid ((w.alloc (ZL t)).alloc (.cells #[.int .i64 t.k,.string (zb t.s),.int .i64 t.n,.int .i64 t.line,.int .i64 t.at0] 65)=w2):=z.symm;clear h A z;simp only [hk,if_false]
  go_enter Tryz.func92,Tryz.ntmps92
  go_wp2_with fail
  refine G.mono ?_;clear G;rintro e w' ⟨rfl,rfl⟩;simp only [uJ];go_wp2_with fail
  rw [y.out];clear y;refine H.mono ?_;clear H;rintro e w' ⟨rfl,rfl⟩;go_wp2
  simp only [bodyPost]
  simp [L.out.alloc]
theorem Qg {w:World} {B e sz n:Nat} {v:Value} {xs:List Value} (h:w.ownsRow B e sz v n xs):∃ao cap,v=.slice ao n cap:=by
 rcases h.2 with ⟨rfl,rfl⟩ | ⟨g,cap,o,rfl,_⟩
 ·exact ⟨_,_,rfl⟩
 ·exact ⟨_,_,rfl⟩
theorem Vd {w:World} {r:Nat} {p v:Value} {lo:Bool} (h:w.heap[r]?=some (.cells #[p,v,.bool lo] 123 (0,0))) :
  w.cell? ⟨r,0,none⟩=some p∧w.cell? ⟨r,1,none⟩=some v∧w.cell? ⟨r,2,none⟩=some (.bool lo)∧∀j,w.frozen? ⟨r,j,none⟩=false:=by
 refine ⟨?_,?_,?_,fun j=>?_⟩
 ·simp only [World.cell?,h];rfl
 ·simp only [World.cell?,h];rfl
 ·simp only [World.cell?,h];rfl
 ·simp only [World.frozen?,h];simp
theorem YI {w:World} {r j:Nat} {c:Array Value} {ty:TypeId} {fr:Nat × Nat} (v:Value) (h:w.heap[r]?=some (.cells c ty fr)):(w.setCell ⟨r,j,none⟩ v).heap[r]?=some (.cells (c.setIfInBounds j v) ty fr):=by
 unfold World.setCell
 simp [Array.getElem?_modify,h]
theorem UA {w:World} {B e sz n r j:Nat} {v u:Value} {xs:List Value} (h:w.ownsRow B e sz v n xs) (hne:v.ownBlock≠some r):(w.setCell ⟨r,j,none⟩ u).ownsRow B e sz v n xs:=by
 refine ⟨h.1,?_⟩;rcases h.2 with A | ⟨g,y,o,rfl,z,G,D⟩
 ·exact .inl A
 ·exact .inr ⟨g,y,o,rfl,z,(Below.heap_setCell _ _ _ _ (by intro e;exact hne (by simp [Value.ownBlock,e]))).trans G,D⟩
theorem zT.own {r j:Nat} {q q':Option Nat} {w w':World} (h:zT r q w q' w') (v:Value):zT r q w q' (w'.setCell ⟨r,j,none⟩ v) :=
 ⟨h.os,h.tape,h.output,by have:=h.size;simpa using this,fun k hk hr hq=>(Below.heap_setCell _ _ _ _ (by simpa using hr)).trans (h.block k hk hr hq),h.row⟩
theorem zd2 (r:Nat) (q:Option Nat) (l:List UInt8) (lo:Bool) (w:World) (h:xr r q l lo w) :
  Calls Tryz.prog 144 #[.pointer (some ⟨r,0,none⟩)] w fun e w'=>e=.returned (.tuple #[])∧zT r q w q w'∧∃v,w'.heap[r]?=some (.cells #[.pointer (some ⟨r,0,none⟩),v,.bool lo] 123 (0,0))∧w'.ownsRow 0 5 1 v l.length (Lib.byteCells l)∧v.ownBlock=q:=by
 obtain ⟨⟨p,v,o,D,z,rfl⟩,y⟩:=h;obtain ⟨A,c1,c2,G⟩:=Vd o;rcases D with rfl | rfl
 ·refine (zaS r w A (by simp [World.shape?,o]) (G 0)).mono ?_
  rintro e w' ⟨rfl,rfl⟩;exact ⟨rfl,(zT.refl _ _ _).own _,v,YI _ o,UA z y,rfl⟩
 ·refine (zb8 r w A).mono ?_
  rintro e w' ⟨rfl,rfl⟩;exact ⟨rfl,zT.refl _ _ _,v,o,z,rfl⟩
theorem zgI (r:Nat) (q:Option Nat) (l:List UInt8) (lo:Bool) (w:World) (h:xr r q l lo w) :
  Calls Tryz.prog 120 #[.pointer (some ⟨r,0,none⟩)] w fun e w'=>e=.returned (.int .i64 (l.length:Int))∧w'=w:=by
 obtain ⟨⟨p,v,z,A,y,rfl⟩,o⟩:=h;obtain ⟨D,c1,c2,G⟩:=Vd z;obtain ⟨I,H,rfl⟩:=Qg y;clear z A y o G c2 D
 go_enter Tryz.func120,Tryz.ntmps120
 go_wp2
 exact bodyPost_ret (v:=.int .i64 (l.length:Int)) (by simp [results,Tryz.results120,go_sem]) rfl ⟨rfl,rfl⟩
theorem zcb {r:Nat} {l s:List UInt8} {lo:Bool} {w w1 w2:World} {v v':Value} (hne:v.ownBlock≠some r) (hto:zT r v.ownBlock w v.ownBlock w1) (hb:w1.heap[r]?=some (.cells #[.pointer (some ⟨r,0,none⟩),v,.bool lo] 123 (0,0))) (hown':w2.ownsRow 0 5 1 v' (l++s).length (Lib.byteCells (l++s))) (hgrow:w1.grownBy w2 v.ownBlock) (hat:v'.ownBlock=v.ownBlock∨∀k,v'.ownBlock=some k→w1.heap.size≤k) :
  ∃o h N,v'=.slice o N h∧w2.cell? ⟨r,1,none⟩=some v∧w2.frozen? ⟨r,1,none⟩=false∧Hid (xr r (Value.ownBlock (.slice o N h)) (l++s) lo (w2.setCell ⟨r,1,none⟩ (.slice o N h))∧zT r v.ownBlock w (Value.ownBlock (.slice o N h)) (w2.setCell ⟨r,1,none⟩ (.slice o N h))):=by
 have D:r<w1.heap.size:=(Array.getElem?_eq_some_iff.1 hb).1
 have z:w2.heap[r]?=some (.cells #[.pointer (some ⟨r,0,none⟩),v,.bool lo] 123 (0,0)):=by
  rw [hgrow.block r D (fun e=>hne e.symm)]
  exact hb
 obtain ⟨L,I,J,H⟩:=Vd z
 have y:v'.ownBlock≠some r:=by
  rcases hat with A | A
  ·rw [A];exact hne
  ·intro e;have:=A r e;omega
 obtain ⟨o,h,rfl⟩:=Qg hown';refine ⟨o,h,_,rfl,I,H 1,show _∧_ from ⟨⟨⟨_,_,YI _ z,.inr rfl,UA hown' y,rfl⟩,y⟩,?_⟩⟩
 have G:zT r v.ownBlock w1 (Value.ownBlock (.slice o (l++s).length h)) w2:=⟨hgrow.os,hgrow.tape,hgrow.output,hgrow.size,fun k hk _ hq=>hgrow.block k hk (fun e=>hq e.symm),hat⟩
 exact (hto.trans G).own _
theorem zd3 (r:Nat) (q:Option Nat) (l s:List UInt8) (lo:Bool) (w:World) (h:xr r q l lo w) (hl:l.length+s.length≤140737488355328) :
  Calls Tryz.prog 121 #[.pointer (some ⟨r,0,none⟩),.string (zb s)] w fun e w'=>e=.returned (.tuple #[.int .i64 (s.length:Int),.nilIface])∧∃q',xr r q' (l++s) lo w'∧zT r q w q' w':=by
 have O:=zd2 r q l lo w h;have D:=h.other;clear h
 go_enter Tryz.func121,Tryz.ntmps121
 go_wp2_with fail
 refine O.mono ?_;clear O;rintro e H ⟨rfl,A,v,G,I,rfl⟩;obtain ⟨Y,c1,c2,U⟩:=Vd G;have L:Hid (zT r v.ownBlock w v.ownBlock H):=A;have R:Hid (H.heap[r]?=some (.cells #[.pointer (some ⟨r,0,none⟩),v,.bool lo] 123 (0,0))):=G;have J:Hid (H.ownsRow 0 5 1 v l.length (Lib.byteCells l)):=I;clear G I A;go_wp2_with (at_builtin;refine zaR rfl _ _ rfl 0 _ l rfl J.out s rfl hl (Nat.zero_le _) ?_;intro Z w2 y o z;obtain ⟨W,T,N,rfl,V,X,Q⟩:=zcb D L.out R.out y o z;clear y o z R J L)
 exact bodyPost_ret (v:=.tuple #[.int .i64 (s.length:Int),.nilIface]) (by simp [results,Tryz.results121,go_sem]) rfl ⟨rfl,_,Q.out.1,Q.out.2⟩
structure zy (w0:World) (r:Nat) (q:Option Nat) (t:List UInt8) (w:World):Prop where
 at0:∃l lo,xr r q l lo w∧(lo=true↔4096<t.length)∧(lo=false→l=t)∧l.length≤4096
 env:Below w0.heap.size w0 w
 hr:w0.heap.size≤r
 hq:∀k,q=some k→w0.heap.size≤k
theorem zy.to {w0 w w':World} {r:Nat} {q q':Option Nat} {t t':List UInt8} (h:zy w0 r q t w) (ht:zT r q w q' w') (ha:∃l lo,xr r q' l lo w'∧(lo=true↔4096<t'.length)∧(lo=false→l=t')∧l.length≤4096):zy w0 r q' t' w':=by
 refine ⟨ha,?_,h.hr,?_⟩
 ·refine ⟨ht.os.trans h.env.os,ht.tape.trans h.env.tape,ht.output.trans h.env.output,Nat.le_trans h.env.size ht.size,fun k o=>(ht.block k (Nat.lt_of_lt_of_le o h.env.size) (by have:=h.hr;omega) fun e=>?_).trans (h.env.block k o)⟩
  have:=h.hq k e;omega
 ·intro k o
  rcases ht.row with e | e
  ·exact h.hq k (e ▸ o)
  ·exact Nat.le_trans h.env.size (e k o)
theorem zy.below {w0 w w':World} {r:Nat} {q:Option Nat} {t:List UInt8} (h:zy w0 r q t w) (hb:Below w.heap.size w w'):zy w0 r q t w':=by
 obtain ⟨l,D,y,o,A,z⟩:=h.at0;exact h.to (zT.below hb) ⟨l,D,y.below hb,o,A,z⟩
theorem zy.alloc {w0 w:World} {r:Nat} {q:Option Nat} {t:List UInt8} (h:zy w0 r q t w) (ob:Obj):zy w0 r q t (w.alloc ob):=h.below ((Below.refl _ w).alloc (Nat.le_refl _) _)
theorem zy.lt {w0 w:World} {r:Nat} {q:Option Nat} {t:List UInt8} (h:zy w0 r q t w):r<w.heap.size∧∀k,q=some k→k<w.heap.size:=by
 obtain ⟨l,y,o,-⟩:=h.at0;exact o.lt
abbrev zcc:Ending:=.panicked [{ v:=QV 2 0,recovered:=false }]
def zn (w0:World) (r:Nat) (q:Option Nat) (t:List UInt8) (w:World) (res:Option (List UInt8)) (e:Ending) (w':World):Prop :=
 ∃q',zT r q w q' w'∧match res with
  | none=>e=zcc
  | some s=>e=.returned (.tuple #[])∧zy w0 r q' (t++s) w'
theorem zw (w0:World) (r:Nat) (q:Option Nat) (t s:List UInt8) (w:World) (h:zy w0 r q t w) (hs:s.length≤1099511627776) :
  Calls Tryz.prog 79 #[.pointer (some ⟨r,0,none⟩),.string (zb s)] w (zn w0 r q t w (some s)):=by
 obtain ⟨l,lo,G,N,T,L⟩:=h.at0;have J:Hid (zy w0 r q t w):=h;obtain ⟨⟨p,v,V,X,ho,W⟩,I⟩:=id G;obtain ⟨c0,c1,c2,cf⟩:=Vd V;have f2:=cf 2
 have D:∀b,(xr r q l b (w.setCell ⟨r,2,none⟩ (.bool b)))∧zT r q w q (w.setCell ⟨r,2,none⟩ (.bool b)):=fun b =>
  ⟨⟨⟨p,v,YI _ V,X,UA ho (by rw [W];exact I),W⟩,I⟩,(zT.refl _ _ _).own _⟩
 have o:∀b,(w.setCell ⟨r,2,none⟩ (.bool b)).cell? ⟨r,2,none⟩=some (.bool b):=fun b=>World.cell?_setCell_same _ _ _ c2
 have y:Hid (∀b,(xr r q l b (w.setCell ⟨r,2,none⟩ (.bool b)))∧zT r q w q (w.setCell ⟨r,2,none⟩ (.bool b))):=D;have U:=zgI r q l lo w G;clear h V X ho W I cf c0 c1 D G;have ab:(zb s).size=s.length:=Zd s;cases lo with
 | true =>
  clear U;have Z:=o true;have ht:4096<t.length:=N.1 rfl
  have O:Hid (zn w0 r q t w (some s) (.returned (.tuple #[])) (w.setCell ⟨r,2,none⟩ (.bool true))) :=
   ⟨q,(y.out true).2,rfl,J.out.to (y.out true).2 ⟨l,true,(y.out true).1,⟨fun _=>by rw [List.length_append];omega,fun _=>rfl⟩,fun h=>(by cases h),L⟩⟩
  clear y J o
  go_enter Tryz.func79,Tryz.ntmps79
  go_wp2
  exact bodyPost_ret (v:=.tuple #[]) (by simp [results,Tryz.results79,go_sem]) rfl O.out
 | false =>
  obtain rfl:=T rfl;have ht:¬ 4096<l.length:=fun R=>by have:=N.2 R;cases this
  go_enter Tryz.func79,Tryz.ntmps79
  go_wp2_with fail
  refine U.mono ?_;clear U;rintro e Q ⟨rfl,rfl⟩
  by_cases hbig:4096<l.length+s.length
  ·have Z:=o true
   have R:(4096:Int)-(l.length:Int)<(s.length:Int):=by omega
   have O:Hid (zn w0 r q l Q (some s) (.returned (.tuple #[])) (Q.setCell ⟨r,2,none⟩ (.bool true))) :=
    ⟨q,(y.out true).2,rfl,J.out.to (y.out true).2 ⟨l,true,(y.out true).1,⟨fun _=>by rw [List.length_append];omega,fun _=>rfl⟩,fun h=>(by cases h),L⟩⟩
   clear y J o;go_wp2
   exact bodyPost_ret (v:=.tuple #[]) (by simp [results,Tryz.results79,go_sem]) rfl O.out
  ·have Z:=o false
   have R:¬ (4096:Int)-(l.length:Int)<(s.length:Int):=by omega
   have cw:=zd3 r q l s false _ (y.out false).1 (by omega)
   have Y:Hid (zT r q Q q (Q.setCell ⟨r,2,none⟩ (.bool false))):=(y.out false).2;clear y o;have aa:decide ((4096:Int)-(l.length:Int)<(s.length:Int))=false:=decide_eq_false R;go_wp2_with fail
   refine cw.mono ?_;clear cw;rintro e w2 ⟨rfl,q',z,A⟩;have H:=Y.out.trans A
   have O:Hid (zn w0 r q l Q (some s) (.returned (.tuple #[])) w2) :=
    ⟨q',H,rfl,J.out.to H ⟨l++s,false,z,⟨fun h=>(by cases h),fun h=>(by rw [List.length_append] at h;omega)⟩,fun _=>rfl,by rw [List.length_append];omega⟩⟩
   clear z A H Y J;go_wp2
   exact bodyPost_ret (v:=.tuple #[]) (by simp [results,Tryz.results79,go_sem]) rfl O.out
def Y8:Bool→Ending
 | true=>.returned (.tuple #[])
 | false=>zcc
theorem z6 (b:Bool) (w:World):Calls Tryz.prog 75 #[.bool b] w fun e w'=>w'=w∧e=Y8 b:=by
 cases b with
 | true =>
  go_enter Tryz.func75,Tryz.ntmps75
  go_wp2
  simp only [bodyPost,results,Tryz.results75]
  simp [Y8]
 | false =>
  go_enter Tryz.func75,Tryz.ntmps75
  go_wp2
  exact ⟨rfl,rfl,rfl⟩
def tokO (k n:Int) (s:List UInt8):Option (List UInt8):=if (tkB k n s).2=0 then some (tkB k n s).1 else none
theorem zgJ (k n:Int) (s:List UInt8) (hn0:-9223372036854775808≤n) (hn1:n≤9223372036854775807):(tkB k n s).1.length≤2*s.length+30:=by
 unfold tkB
 split
 ·exact zdf k n s hn0 hn1
 ·simp
theorem UB (w0:World) (r:Nat) (q:Option Nat) (t:List UInt8) (k n a b:Int) (s:List UInt8) (w:World) (ht:ZC w0) (h:zy w0 r q t w) (hn0:-9223372036854775808≤n) (hn1:n≤9223372036854775807) (hs:s.length≤100000000) :
  Calls Tryz.prog 78 #[.pointer (some ⟨r,0,none⟩),.agg #[.int .i64 k,.string (zb s),.int .i64 n,.int .i64 a,.int .i64 b]] w (zn w0 r q t w (tokO k n s)):=by
 obtain ⟨w1,y⟩:∃w1,w1=w.alloc (.cells #[.int .i64 k,.string (zb s),.int .i64 n,.int .i64 a,.int .i64 b] 65):=⟨_,rfl⟩;have z:Below w.heap.size w w1:=by rw [y];exact (Below.refl _ w).alloc (Nat.le_refl _) _
 have H:w1.heap[w.heap.size]?=some (.cells #[.int .i64 k,.string (zb s),.int .i64 n,.int .i64 a,.int .i64 b] 65 (0,0)):=by rw [y];exact World.alloc_heap_new w _
 have U:=h.below z;have W:=zaQ k n a b s w1 hn0 hn1 hs (ht.below U.env (Nat.le_refl _));have O:=zgJ k n s hn0 hn1;have c0:w1.cell? ⟨w.heap.size,0,none⟩=some (.int .i64 k):=by simp only [World.cell?,H];rfl
 have c1:w1.cell? ⟨w.heap.size,1,none⟩=some (.string (zb s)):=by simp only [World.cell?,H];rfl
 have c2:w1.cell? ⟨w.heap.size,2,none⟩=some (.int .i64 n):=by simp only [World.cell?,H];rfl
 have c3:w1.cell? ⟨w.heap.size,3,none⟩=some (.int .i64 a):=by simp only [World.cell?,H];rfl
 have c4:w1.cell? ⟨w.heap.size,4,none⟩=some (.int .i64 b):=by simp only [World.cell?,H];rfl
 have Z:=y.symm;have J:Hid (zT r q w q w1):=zT.below z;have Q:Hid (zy w0 r q t w1):=U;clear y z H h U ht;obtain ⟨R,o⟩:∃R,R=tokO k n s:=⟨_,rfl⟩;rw [←o]
 unfold tokO at o
 generalize tkB k n s=X at *;have HR:Hid (R=if X.2=0 then some X.1 else none):=o
 clear o
 go_enter Tryz.func78,Tryz.ntmps78
 go_wp2_with fail
 refine W.mono ?_;clear W c0 c1 c2 c3 c4;rintro e T ⟨rfl,A⟩;have D:Hid (zT r q w q T):=J.out.trans (zT.below A);have I:Hid (zy w0 r q t T):=Q.out.below A;obtain ⟨u,G⟩:=X;simp only at O ⊢;have o:R=if G=0 then some u else none:=HR.out
 clear HR;clear A J Q
 by_cases he:G=0
 ·subst he
  have V:=z6 true T;have Y:=zw w0 r q t u T I.out (by omega)
  rw [if_pos rfl] at o;subst o;go_wp2_with fail
  refine V.mono ?_;rintro e w3 ⟨rfl,rfl⟩;clear V;simp only [Y8];go_wp2_with fail
  refine Y.mono ?_;clear Y;rintro e w4 ⟨q',L,rfl,N⟩;have HP:Hid (zn w0 r q t w (some u) (.returned (.tuple #[])) w4):=⟨q',D.out.trans L,rfl,N⟩;clear L N D I;go_wp2
  exact bodyPost_ret (v:=.tuple #[]) (by simp [results,Tryz.results78,go_sem]) rfl HP.out
 ·have V:=z6 false T
  have U:((G:Int)==0)=false:=by rw [beq_eq_false_iff_ne];omega
  have h3:decide ((G:Int)=0)=false:=by rw [decide_eq_false_iff_not];omega
  have h5:decide (G=0)=false:=by rw [decide_eq_false_iff_not];exact he
  have h6:(G==0)=false:=by rw [beq_eq_false_iff_ne];exact he
  rw [if_neg he] at o;subst o;go_wp2_with fail
  refine V.mono ?_;rintro e w3 ⟨rfl,rfl⟩;exact ⟨rfl,q,D.out,rfl⟩
theorem yu (w0:World) (r:Nat) (q:Option Nat) (t:List UInt8) (s:List UInt8) (w:World) (ht:ZC w0) (h:zy w0 r q t w) (hs:s.length≤100000000) :
  Calls Tryz.prog 80 #[.pointer (some ⟨r,0,none⟩),.string (zb s)] w (zn w0 r q t w (tokO 1 0 s)):=by
 have c:=UB w0 r q t 1 0 0 0 s w ht h (by omega) (by omega) hs
 clear ht h;generalize tokO 1 0 s=R at *
 go_enter Tryz.func80,Tryz.ntmps80
 go_wp2_with fail
 refine c.mono ?_;clear c;rintro e D ⟨A,o,z⟩;cases R with
 | none=>subst z;exact ⟨rfl,A,o,rfl⟩
 | some u =>
  obtain ⟨rfl,y⟩:=z;have G:Hid (zn w0 r q t w (some u) (.returned (.tuple #[])) D):=⟨A,o,rfl,y⟩;clear o y;go_wp2
  exact bodyPost_ret (v:=.tuple #[]) (by simp [results,Tryz.results80,go_sem]) rfl G.out
def levelsL:List (List UInt8 × Nat):=[([124,124],1),([38,38],2),([61,61],3),([33,61],3),([60],4),([60,61],4),([62],4),([62,61],4),([43],5),([45],5),([42],6),([47],6),([37],6)]
def levelOf (s:List UInt8):Nat:=((levelsL.find? fun p=>decide (p.1=s)).map (·.2)).getD 0
def Xx:List Value:=levelsL.flatMap fun p=>[.string (zb p.1),.int .i64 p.2]
def levelsV:Value:=.agg Xx.toArray
def ZA (w:World):Prop:=w.rangeAt 1 0 Xx
theorem zaX:(Tryz.prog.info? 190).map (·.size)=some Xx.length:=by kernel_rfl
theorem zcd (w:World) (i:Nat) (h:i<13):(Instr.index 190 levelsV (.int .i64 (i:Int))).run Tryz.prog w=.ok (.agg #[.string (zb (levelsL[i]'h).1),.int .i64 (levelsL[i]'h).2]) w:=by
 have o:i=0∨i=1∨i=2∨i=3∨i=4∨i=5∨i=6∨i=7∨i=8∨i=9∨i=10∨i=11∨i=12:=by omega
 rcases o with rfl | rfl | rfl | rfl | rfl | rfl | rfl | rfl | rfl | rfl | rfl | rfl | rfl
 all_goals rfl
theorem zfd {s:List UInt8} {i:Nat} (h:i<levelsL.length) (he:(levelsL[i]'h).1=s):levelOf s=(levelsL[i]'h).2:=by
 subst he;have o:∀j (hj:j<levelsL.length),levelOf (levelsL[j]'hj).1=(levelsL[j]'hj).2:=by decide
 exact o i h
theorem zd4 {s:List UInt8} (h:∀j (o:j<levelsL.length),(levelsL[j]'o).1≠s):levelOf s=0:=by
 unfold levelOf
 have:levelsL.find? (fun p=>decide (p.1=s))=none:=by
  rw [List.find?_eq_none];intro p y;obtain ⟨j,o,rfl⟩:=List.getElem_of_mem y
  simpa using h j o
 rw [this];rfl
theorem Xy (s:List UInt8) (w:World) (ht:ZA w) :
  Calls Tryz.prog 118 #[.string (zb s)] w fun e w'=>e=.returned (.int .i64 (levelOf s))∧Below w.heap.size w w':=by
 have N:Hid (ZA w):=ht;clear ht
 go_enter Tryz.func118,Tryz.ntmps118
 go_wp2_with (refine wpList_load_mid rfl 190 _ rfl 1 0 rfl Xx _ N.out Tryz.underlying190 rfl zaX ?_)
 have O:Hid (∀(wx:World) (i:Nat) (h:i<13),(Instr.index 190 levelsV (.int .i64 (i:Int))).run Tryz.prog wx=.ok (.agg #[.string (zb (levelsL[i]'h).1),.int .i64 (levelsL[i]'h).2]) wx):=fun wx i h=>zcd wx i h
 rw [show Value.agg Xx.toArray=levelsV from rfl]
 generalize levelsV=A at *
 go_loopw [6] (fun x wr=>∃i:Nat,i≤13∧x=.int .i64 i∧(∀j (hj:j<13),j<i→(levelsL[j]'hj).1≠s)∧Below w.heap.size w wr) (fun x _=>13-(intOf x).toNat)
 case atStart=>exact ⟨0,Nat.zero_le _,rfl,fun j _ h=>by omega,Below.refl _ _⟩
 case round =>
  obtain ⟨i,R,rfl,y,z⟩:=hrel;have L:Hid (∀j (hj:j<13),j<i→(levelsL[j]'hj).1≠s):=y;have J:Hid (Below w.heap.size w wr):=z;have o:=z.size;clear y z
  by_cases hlt:i<13
  ·have D:=fun wx=>O.out wx i hlt
   obtain ⟨a,G⟩:∃a,a=(levelsL[i]'hlt).1:=⟨_,rfl⟩;obtain ⟨b,I⟩:∃b,b=(levelsL[i]'hlt).2:=⟨_,rfl⟩;rw [←G,←I] at D
   by_cases he:a=s
   ·have H:Hid (levelOf s=b):=show _=_ by rw [I];exact zfd hlt (by rw [←G,he])
    subst he;clear G I;go_wp2
    refine bodyPost_ret (v:=.int .i64 b) (by simp [results,Tryz.results118,go_sem]) rfl ⟨by rw [H.out],?_⟩
    exact J.out.alloc o _
   ·have H:Hid ((levelsL[i]'hlt).1≠s):=show _≠s by rw [←G];exact he
    have Q:(a==s)=false:=by rw [beq_eq_false_iff_ne];exact he
    clear G I he;go_wp2
    refine ⟨⟨i+1,by omega,by go_num,fun j hj hji=>?_,J.out.alloc o _⟩,by simp [intOf];omega⟩
    by_cases h:j<i
    ·exact L.out j hj h
    ·obtain rfl:j=i:=by omega
     exact H.out
  ·obtain rfl:i=13:=by omega
   have H:Hid (levelOf s=0):=zd4 (fun j hj=>L.out j hj hj)
   go_wp2
   refine bodyPost_ret (v:=.int .i64 0) (by simp [results,Tryz.results118,go_sem]) rfl ⟨by rw [H.out];rfl,?_⟩
   exact J.out
theorem Ve (s:List UInt8) (w:World) :
  Calls Tryz.prog 117 #[.string (zb s)] w fun e w'=>e=.returned (.bool (s==[45]||s==[33]))∧w'=w:=by
 go_enter Tryz.func117,Tryz.ntmps117
 go_wp2
 all_goals simp_all [bodyPost,results,Tryz.results117]
inductive Ex where
 | mk (k:Nat) (s:List UInt8) (n:Int) (kids:List Ex) (line:Nat)
inductive zX (S:Nat→Prop) (w:World):Ex→Value→Prop where
 | leaf (k:Nat) (s:List UInt8) (n:Int) (line:Nat):zX S w (.mk k s n [] line) (.agg #[.int .i64 k,.string (zb s),.int .i64 n,.slice none 0 0,.int .i64 line])
 | node (k:Nat) (s:List UInt8) (n:Int) (kids:List Ex) (line g cap:Nat) (us:List (List Value)) (hne:kids≠[]) (hlen:us.length=kids.length) (hB:S g) (hg:g<w.heap.size) (hc:kids.length≤cap) (hm:cap≤maxLen)
   (hcell:∀j u,us.flatten[j]?=some u→w.cell? ⟨g,j,none⟩=some u) (hfive:∀c∈us,c.length=5)
   (hk:∀(j:Nat) (x:Ex) (c:List Value),kids[j]?=some x→us[j]?=some c→zX S w x (.agg c.toArray)) :
   zX S w (.mk k s n kids line) (.agg #[.int .i64 k,.string (zb s),.int .i64 n,.slice (some ⟨g,0,none⟩) kids.length cap,.int .i64 line])
abbrev ZI (B:Nat) (w:World) (x:Ex) (v:Value):Prop:=zX (fun k=>B≤k) w x v
theorem zX.kept {S:Nat→Prop} {w w':World} {x:Ex} {v:Value} (h:zX S w x v) (hs:w.heap.size≤w'.heap.size) (hb:∀k,S k→k<w.heap.size→w'.heap[k]?=w.heap[k]?):zX S w' x v:=by
 induction h with
 | leaf k s n line=>exact .leaf k s n line
 | node k s n kids line g cap us hne hlen hB hg hc hm hcell hfive _ ih =>
  refine .node k s n kids line g cap us hne hlen hB (Nat.lt_of_lt_of_le hg hs) hc hm (fun j u hj=>?_) hfive (fun j x c hx hc'=>ih j x c hx hc')
  rw [World.cell?_of_block (hb g hB hg)];exact hcell j u hj
theorem zX.wide {S S':Nat→Prop} {w:World} {x:Ex} {v:Value} (h:zX S w x v) (hS:∀k,S k→S' k):zX S' w x v:=by
 induction h with
 | leaf k s n line=>exact .leaf k s n line
 | node k s n kids line g cap us hne hlen hB hg hc hm hcell hfive _ ih=>exact .node k s n kids line g cap us hne hlen (hS _ hB) hg hc hm hcell hfive ih
theorem zX.low {S:Nat→Prop} {w:World} {x:Ex} {v:Value} (h:zX S w x v):zX (fun k=>S k∧k<w.heap.size) w x v:=by
 induction h with
 | leaf k s n line=>exact .leaf k s n line
 | node k s n kids line g cap us hne hlen hB hg hc hm hcell hfive _ ih=>exact .node k s n kids line g cap us hne hlen ⟨hB,hg⟩ hg hc hm hcell hfive ih
theorem ZI.kept {B:Nat} {w w':World} {x:Ex} {v:Value} (h:ZI B w x v) (hs:w.heap.size≤w'.heap.size) (hb:∀k,B≤k→k<w.heap.size→w'.heap[k]?=w.heap[k]?):ZI B w' x v:=zX.kept h hs hb
theorem zgK (B r:Nat) (w:World) (hc1:w.cell? ⟨r,1,none⟩=some (.slice none 0 0)) :
  Calls Tryz.prog 67 #[.pointer (some ⟨r,0,none⟩)] w fun e w'=>e=.returned (.string (zb []))∧Below B w w':=by
 have o:∀(W:World) (q:Option Addr),(Builtin.unsafeString_ #[156,3] 9 #[.pointer q,.int .i64 0]).run Tryz.prog W=.ok (.string .empty) W:=fun W q=>Lib.run_unsafeString_none W _ _ _ q
 have c1:w.drew.cell? ⟨r,1,none⟩=some (.slice none 0 0):=hc1;have h:(Builtin.unsafeSliceData_ #[119] 156 #[.slice none 0 0]).run Tryz.prog w.drew=.ok (.pointer none) w.drew:=rfl;have mixed:Tryz.prog.follows Departure.mixedOrders=true:=rfl
 go_enter Tryz.func67,Tryz.ntmps67
 go_wp2
 go_region_o
 all_goals (go_wp2;exact bodyPost_ret (v:=.string .empty) (by simp [results,Tryz.results67,go_sem]) rfl ⟨rfl,Below.drew (Below.refl B w)⟩)
def zjA:List (List (List UInt8)):=[[[124,124]],[[38,38]],[[61,61],[33,61]],[[60],[60,61],[62],[62,61]],[[43],[45]],[[42],[47],[37]]]
def rowT (i:Nat):List (List UInt8):=(zjA[i]?).getD []
theorem zfe {s:List UInt8} {i:Nat} (h:levelOf s=i+1):s∈rowT i:=by
 unfold levelOf at h
 cases hf:levelsL.find? fun p=>decide (p.1=s) with
 | none=>rw [hf] at h;simp at h
 | some p =>
  rw [hf] at h;simp only [Option.map_some,Option.getD_some] at h;have y:=List.mem_of_find?_eq_some hf;have z:p.1=s:=by simpa using List.find?_some hf
  subst z;have o:∀p∈levelsL,∀i,i<7→p.2=i+1→p.1∈rowT i:=by decide
  have A:p.2≤6:=by
   have:∀p∈levelsL,p.2≤6:=by decide
   exact this p y
  exact o p y i (by omega) h
abbrev zd5 (l:List (List UInt8)):Obj:=.cells (l.map fun x=>Value.string (zb x)).toArray 9
abbrev lnO (N:Nat):Obj:=.cells #[.slice (some ⟨N,0,none⟩) 1 1,.slice (some ⟨N+1,0,none⟩) 1 1,.slice (some ⟨N+2,0,none⟩) 2 2,.slice (some ⟨N+3,0,none⟩) 4 4,.slice (some ⟨N+4,0,none⟩) 2 2,.slice (some ⟨N+5,0,none⟩) 3 3] 153
abbrev lnW (w:World):World:=((((((w.alloc (zd5 (rowT 0))).alloc (zd5 (rowT 1))).alloc (zd5 (rowT 2))).alloc (zd5 (rowT 3))).alloc (zd5 (rowT 4))).alloc (zd5 (rowT 5))).alloc (lnO w.heap.size)
end Go.Proofs.YtcphojjpapgblaaGreatDoor
