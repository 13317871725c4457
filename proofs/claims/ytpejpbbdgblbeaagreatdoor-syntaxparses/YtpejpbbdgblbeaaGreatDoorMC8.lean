import Derived.Test.YtpejpbbdgblbeaaGreatDoorMC6
import Derived.Test.YtpejpbbdgblbeaaGreatDoorMC7
import Derived.Test.YtpejpbbdgblbeaaGreatDoorXTk
import Derived.Shelf.Strings.Builder1
namespace Go.Proofs.YtpejpbbdgblbeaaGreatDoor
open Go.RowKit Go.Shelf
set_option maxHeartbeats 16000000
set_option maxRecDepth 100000
structure zc (r:Nat) (w w':World):Prop where
 os:w'.os=w.os
 tape:w'.tape=w.tape
 output:w'.output=w.output
 size:w.heap.size≤w'.heap.size
 block:∀k,k<w.heap.size→k≠r→w'.heap[k]?=w.heap[k]?
theorem zc.refl (r:Nat) (w:World):zc r w w:=⟨rfl,rfl,rfl,Nat.le_refl _,fun _ _ _=>rfl⟩
theorem zc.of {r:Nat} {w w':World} (h:Below w.heap.size w w'):zc r w w':=⟨h.os,h.tape,h.output,h.size,fun k hk _=>h.block k hk⟩
theorem zc.trans {r:Nat} {a b c:World} (h:zc r a b) (k:zc r b c):zc r a c :=
 ⟨k.os.trans h.os,k.tape.trans h.tape,k.output.trans h.output,Nat.le_trans h.size k.size,fun i hi hr=>(k.block i (Nat.lt_of_lt_of_le hi h.size) hr).trans (h.block i hi hr)⟩
theorem zc.alloc {r:Nat} {w w':World} (h:zc r w w') (ob:Obj):zc r w (w'.alloc ob) :=
 h.trans (.of ((Below.refl _ w').alloc (Nat.le_refl _) ob))
theorem zc.setCell {r:Nat} {w w':World} (h:zc r w w') (j:Nat) (v:Value):zc r w (w'.setCell ⟨r,j,none⟩ v):=by
 have hb:=(Below.refl 0 w').setCell (p:=⟨r,j,none⟩) (by simp) v
 refine h.trans ⟨hb.os,hb.tape,hb.output,hb.size,fun k _ hr=>Below.heap_setCell _ _ _ _ (by simpa using hr)⟩
theorem zh.lt {r g o cap:Nat} {t:Tk} {ts:List Tk} {w:World} (h:zh r g o cap (t::ts) w):r<w.heap.size∧g<w.heap.size :=
 ⟨World.block_lt_of_cell? w _ h.cell,World.block_lt_of_cell? w _ (h.toks 0 (.int .i64 t.k) (by simp [z8]))⟩
theorem zh.alloc {r g o cap:Nat} {t:Tk} {ts:List Tk} {w:World} (h:zh r g o cap (t::ts) w) (ob:Obj):zh r g o cap (t::ts) (w.alloc ob) :=
 h.keep (Below.heap_alloc w ob r h.lt.1) (Below.heap_alloc w ob g h.lt.2)
theorem ZL (r g o cap:Nat) (t:Tk) (ts:List Tk) (s:List UInt8) (w:World) (h:zh r g o cap (t::ts) w) (hne:zn t s=true→ts≠[]) :
  Calls Tryz.prog 52 #[.pointer (some ⟨r,0,none⟩),.string (za s)] w fun e w'=>e=.returned (.bool (zn t s))∧zc r w w' ∧
   if zn t s=true then zh r g (o+5) (cap-1) ts w' else zh r g o cap (t::ts) w':=by
 have ch:=zgB r g o cap t ts s w h;obtain ⟨w1,hw1⟩:∃w1,w1=(w.alloc (yi t)).alloc (yi t):=⟨_,rfl⟩;have h1:zh r g o cap (t::ts) w1:=by rw [hw1];exact (h.alloc _).alloc _
 have hk1:zc r w w1:=by rw [hw1];exact ((zc.refl r w).alloc _).alloc _
 rw [←hw1] at ch;have H1:Hid (zh r g o cap (t::ts) w1):=h1;have HK:Hid (zc r w w1):=hk1;cases hi:zn t s
 ·clear hne h h1 hk1 hw1
  rw [hi] at ch
  go_enter Tryz.func52,Tryz.ntmps52
  go_wp2_with fail
  refine ch.mono ?_;clear ch;rintro e w' ⟨rfl,rfl⟩;go_wp2
  simp only [bodyPost,results,Tryz.results52]
  simp [HK.out,H1.out]
 ·have cs:=VM r g o cap t ts w1 h1 (hne hi)
  clear hne h h1 hk1 hw1;rw [hi] at ch
  go_enter Tryz.func52,Tryz.ntmps52
  go_wp2_with fail
  refine ch.mono ?_;clear ch;rintro e w' ⟨rfl,rfl⟩;go_wp2_with fail
  refine cs.mono ?_;clear cs;rintro e w' ⟨rfl,rfl⟩;go_wp2
  simp only [bodyPost,results,Tryz.results52]
  simp [HK.out.setCell,H1.out.next]
abbrev Z2 (at0:Nat):Ending:=.panicked [{ v:=zal 6 at0,recovered:=false }]
theorem Yt (r g o cap:Nat) (t:Tk) (ts:List Tk) (s:List UInt8) (w:World) (h:zh r g o cap (t::ts) w) (hne:zn t s=true→ts≠[]) :
  Calls Tryz.prog 95 #[.pointer (some ⟨r,0,none⟩),.string (za s)] w fun e w'=>zc r w w' ∧
   if zn t s=true then e=.returned (.tuple #[])∧zh r g (o+5) (cap-1) ts w' else e=Z2 t.at0:=by
 have ch:=ZL r g o cap t ts s w h hne;cases hi:zn t s
 ·clear hne h
  rw [hi] at ch
  go_enter Tryz.func95,Tryz.ntmps95
  go_wp2_with fail
  refine ch.mono ?_;clear ch;rintro e w1 ⟨rfl,hk,h1⟩;have cs:=UZ r g o cap t ts w1 (by simpa using h1)
  have HK:Hid (zc r w w1):=hk;clear h1 hk;go_wp2_with fail
  refine cs.mono ?_;clear cs;rintro e w' ⟨rfl,rfl⟩;go_wp2
  simp only [bodyPost]
  simp [HK.out.alloc]
 ·clear hne h
  rw [hi] at ch
  go_enter Tryz.func95,Tryz.ntmps95
  go_wp2_with fail
  refine ch.mono ?_;clear ch;rintro e w1 ⟨rfl,hk,h1⟩;have HK:Hid (zc r w w1):=hk;have h1':zh r g (o+5) (cap-1) ts w1:=by simpa using h1
  have H1:Hid (zh r g (o+5) (cap-1) ts w1):=h1';clear h1 h1' hk;go_wp2
  simp only [bodyPost,results,Tryz.results95]
  simp [HK.out,H1.out]
theorem zhf (r g o cap:Nat) (t:Tk) (ts:List Tk) (w:World) (h:zh r g o cap (t::ts) w) :
  Calls Tryz.prog 50 #[.pointer (some ⟨r,0,none⟩)] w fun e w'=>zc r w w' ∧
   if t.k=0 then e=.returned (.tuple #[]) else e=Z2 t.at0:=by
 have ch:=yR r g o cap t ts w h;have hf:=Xi;obtain ⟨w1,hw1⟩:∃w1,w1=w.alloc (yi t):=⟨_,rfl⟩;have h1:zh r g o cap (t::ts) w1:=by rw [hw1];exact h.alloc _
 have HK:Hid (zc r w w1):=by rw [hw1];exact (zc.refl r w).alloc _
 rw [←hw1] at ch;have cs:=UZ r g o cap t ts w1 h1;clear h h1 hw1
 by_cases hk:t.k=0
 ·clear cs
  simp only [hk,if_true]
  go_enter Tryz.func50,Tryz.ntmps50
  go_wp2_with fail
  refine ch.mono ?_;clear ch;rintro e w' ⟨rfl,rfl⟩;simp only [Xc,hk];go_wp2
  simp only [bodyPost,results,Tryz.results50]
  simp [HK.out]
 ·have hk':¬ (t.k:Int)=0:=by omega
  simp only [hk,if_false]
  go_enter Tryz.func50,Tryz.ntmps50
  go_wp2_with fail
  refine ch.mono ?_;clear ch;rintro e w' ⟨rfl,rfl⟩;simp only [Xc];go_wp2_with fail
  refine cs.mono ?_;clear cs;rintro e w' ⟨rfl,rfl⟩;go_wp2
  simp only [bodyPost]
  simp [HK.out.alloc]
theorem Xl (r g o cap:Nat) (t:Tk) (ts:List Tk) (w:World) (h:zh r g o cap (t::ts) w) (hne:t.k=1→ts≠[]) :
  Calls Tryz.prog 94 #[.pointer (some ⟨r,0,none⟩)] w fun e w'=>zc r w w' ∧
   if t.k=1 then e=.returned (.string (za t.s))∧zh r g (o+5) (cap-1) ts w' else e=Z2 t.at0:=by
 have ch:=yR r g o cap t ts w h;obtain ⟨w2,hw2⟩:∃w2,w2=(w.alloc (yi t)).alloc (yi t):=⟨_,rfl⟩;have h2:zh r g o cap (t::ts) w2:=by rw [hw2];exact (h.alloc _).alloc _
 have HK:Hid (zc r w w2):=by rw [hw2];exact ((zc.refl r w).alloc _).alloc _
 have cg:=UZ r g o cap t ts w2 h2
 by_cases hk:t.k=1
 ·have cs:=VM r g o cap t ts w2 h2 (hne hk)
  have H2:Hid (zh r g o cap (t::ts) w2):=h2;have hw3:(w.alloc (yi t)).alloc (.cells #[.int .i64 1,.string (za t.s),.int .i64 t.n,.int .i64 t.line,.int .i64 t.at0] 66)=w2:=by rw [hw2];simp [yi,hk]
  have hw2':Hid ((w.alloc (yi t)).alloc (.cells #[.int .i64 1,.string (za t.s),.int .i64 t.n,.int .i64 t.line,.int .i64 t.at0] 66)=w2):=hw3;clear hw3
  have hcell:∀v,(w2.setCell ⟨r,0,none⟩ v).cell? ⟨w.heap.size+1,1,none⟩=some (.string (za t.s)):=fun v=>by
   rw [World.cell?_setCell_other _ _ _ _ (by simp),hw2]
   have hn:(w.alloc (yi t)).heap.size=w.heap.size+1:=by simp
   have:=World.alloc_heap_new (w.alloc (yi t)) (yi t)
   rw [hn] at this;simp only [World.cell?,this]
   rfl
  clear cg h h2 hw2;simp only [hk,if_true]
  go_enter Tryz.func94,Tryz.ntmps94
  go_wp2_with fail
  refine ch.mono ?_;clear ch;rintro e w' ⟨rfl,rfl⟩;simp only [Xc];go_wp2_with fail
  rw [hw2'.out];clear hw2';refine cs.mono ?_;clear cs;rintro e w' ⟨rfl,rfl⟩;go_wp2
  simp only [bodyPost,results,Tryz.results94]
  simp [HK.out.setCell,H2.out.next]
 ·have hk':¬ (t.k:Int)=1:=by omega
  have hw2':Hid ((w.alloc (yi t)).alloc (.cells #[.int .i64 t.k,.string (za t.s),.int .i64 t.n,.int .i64 t.line,.int .i64 t.at0] 66)=w2):=hw2.symm;clear h h2 hw2;simp only [hk,if_false]
  go_enter Tryz.func94,Tryz.ntmps94
  go_wp2_with fail
  refine ch.mono ?_;clear ch;rintro e w' ⟨rfl,rfl⟩;simp only [Xc];go_wp2_with fail
  rw [hw2'.out];clear hw2';refine cg.mono ?_;clear cg;rintro e w' ⟨rfl,rfl⟩;go_wp2
  simp only [bodyPost]
  simp [HK.out.alloc]
theorem QM {w:World} {B e sz n:Nat} {v:Value} {xs:List Value} (h:w.ownsRow B e sz v n xs):∃ao cap,v=.slice ao n cap:=by
 rcases h.2 with ⟨rfl,rfl⟩ | ⟨g,cap,cur,rfl,_⟩
 ·exact ⟨_,_,rfl⟩
 ·exact ⟨_,_,rfl⟩
theorem VQ {w:World} {r:Nat} {p v:Value} {lo:Bool} (h:w.heap[r]?=some (.cells #[p,v,.bool lo] 124 (0,0))) :
  w.cell? ⟨r,0,none⟩=some p∧w.cell? ⟨r,1,none⟩=some v∧w.cell? ⟨r,2,none⟩=some (.bool lo)∧∀j,w.frozen? ⟨r,j,none⟩=false:=by
 refine ⟨?_,?_,?_,fun j=>?_⟩
 ·simp only [World.cell?,h];rfl
 ·simp only [World.cell?,h];rfl
 ·simp only [World.cell?,h];rfl
 ·simp only [World.frozen?,h];simp
theorem VR {w:World} {r j:Nat} {c:Array Value} {ty:TypeId} {fr:Nat × Nat} (v:Value) (h:w.heap[r]?=some (.cells c ty fr)):(w.setCell ⟨r,j,none⟩ v).heap[r]?=some (.cells (c.setIfInBounds j v) ty fr):=by
 unfold World.setCell
 simp [Array.getElem?_modify,h]
theorem U6 {w:World} {B e sz n r j:Nat} {v u:Value} {xs:List Value} (h:w.ownsRow B e sz v n xs) (hne:v.ownBlock≠some r):(w.setCell ⟨r,j,none⟩ u).ownsRow B e sz v n xs:=by
 refine ⟨h.1,?_⟩;rcases h.2 with h9 | ⟨g,cap,cur,rfl,h2,h3,h4⟩
 ·exact .inl h9
 ·exact .inr ⟨g,cap,cur,rfl,h2,(Below.heap_setCell _ _ _ _ (by intro e;exact hne (by simp [Value.ownBlock,e]))).trans h3,h4⟩
theorem zX.own {r j:Nat} {q q':Option Nat} {w w':World} (h:zX r q w q' w') (v:Value):zX r q w q' (w'.setCell ⟨r,j,none⟩ v) :=
 ⟨h.os,h.tape,h.output,by have:=h.size;simpa using this,fun k hk hr hq=>(Below.heap_setCell _ _ _ _ (by simpa using hr)).trans (h.block k hk hr hq),h.row⟩
theorem zek (r:Nat) (q:Option Nat) (l:List UInt8) (lo:Bool) (w:World) (h:Xj r q l lo w) :
  Calls Tryz.prog 146 #[.pointer (some ⟨r,0,none⟩)] w fun e w'=>e=.returned (.tuple #[])∧zX r q w q w'∧∃v,w'.heap[r]?=some (.cells #[.pointer (some ⟨r,0,none⟩),v,.bool lo] 124 (0,0))∧w'.ownsRow 0 5 1 v l.length (Lib.byteCells l)∧v.ownBlock=q:=by
 obtain ⟨⟨p,v,hb,hp,ho,rfl⟩,hne⟩:=h;obtain ⟨c0,c1,c2,cf⟩:=VQ hb;rcases hp with rfl | rfl
 ·refine (zbe r w c0 (by simp [World.shape?,hb]) (cf 0)).mono ?_
  rintro e w' ⟨rfl,rfl⟩;exact ⟨rfl,(zX.refl _ _ _).own _,v,VR _ hb,U6 ho hne,rfl⟩
 ·refine (zcy r w c0).mono ?_
  rintro e w' ⟨rfl,rfl⟩;exact ⟨rfl,zX.refl _ _ _,v,hb,ho,rfl⟩
theorem zgD (r:Nat) (q:Option Nat) (l:List UInt8) (lo:Bool) (w:World) (h:Xj r q l lo w) :
  Calls Tryz.prog 122 #[.pointer (some ⟨r,0,none⟩)] w fun e w'=>e=.returned (.int .i64 (l.length:Int))∧w'=w:=by
 obtain ⟨⟨p,v,hb,hp,ho,rfl⟩,hne⟩:=h;obtain ⟨c0,c1,c2,cf⟩:=VQ hb;obtain ⟨ao,cap,rfl⟩:=QM ho;clear hb hp ho hne cf c2 c0
 go_enter Tryz.func122,Tryz.ntmps122
 go_wp2
 exact bodyPost_ret (v:=.int .i64 (l.length:Int)) (by simp [results,Tryz.results122,go_sem]) rfl ⟨rfl,rfl⟩
theorem zcD {r:Nat} {l s:List UInt8} {lo:Bool} {w w1 w2:World} {v v':Value} (hne:v.ownBlock≠some r) (hto:zX r v.ownBlock w v.ownBlock w1) (hb:w1.heap[r]?=some (.cells #[.pointer (some ⟨r,0,none⟩),v,.bool lo] 124 (0,0))) (hown':w2.ownsRow 0 5 1 v' (l++s).length (Lib.byteCells (l++s))) (hgrow:w1.grownBy w2 v.ownBlock) (hat:v'.ownBlock=v.ownBlock∨∀k,v'.ownBlock=some k→w1.heap.size≤k) :
  ∃ao cap N,v'=.slice ao N cap∧w2.cell? ⟨r,1,none⟩=some v∧w2.frozen? ⟨r,1,none⟩=false∧Hid (Xj r (Value.ownBlock (.slice ao N cap)) (l++s) lo (w2.setCell ⟨r,1,none⟩ (.slice ao N cap))∧zX r v.ownBlock w (Value.ownBlock (.slice ao N cap)) (w2.setCell ⟨r,1,none⟩ (.slice ao N cap))):=by
 have hlt:r<w1.heap.size:=(Array.getElem?_eq_some_iff.1 hb).1
 have hb2:w2.heap[r]?=some (.cells #[.pointer (some ⟨r,0,none⟩),v,.bool lo] 124 (0,0)):=by
  rw [hgrow.block r hlt (fun e=>hne e.symm)]
  exact hb
 obtain ⟨d0,d1,d2,df⟩:=VQ hb2
 have hne':v'.ownBlock≠some r:=by
  rcases hat with h9 | h9
  ·rw [h9];exact hne
  ·intro e;have:=h9 r e;omega
 obtain ⟨ao,cap,rfl⟩:=QM hown';refine ⟨ao,cap,_,rfl,d1,df 1,show _∧_ from ⟨⟨⟨_,_,VR _ hb2,.inr rfl,U6 hown' hne',rfl⟩,hne'⟩,?_⟩⟩
 have h2:zX r v.ownBlock w1 (Value.ownBlock (.slice ao (l++s).length cap)) w2:=⟨hgrow.os,hgrow.tape,hgrow.output,hgrow.size,fun k hk _ hq=>hgrow.block k hk (fun e=>hq e.symm),hat⟩
 exact (hto.trans h2).own _
theorem zel (r:Nat) (q:Option Nat) (l s:List UInt8) (lo:Bool) (w:World) (h:Xj r q l lo w) (hl:l.length+s.length≤140737488355328) :
  Calls Tryz.prog 123 #[.pointer (some ⟨r,0,none⟩),.string (za s)] w fun e w'=>e=.returned (.tuple #[.int .i64 (s.length:Int),.nilIface])∧∃q',Xj r q' (l++s) lo w'∧zX r q w q' w':=by
 have cc:=zek r q l lo w h;have hne:=h.other;clear h
 go_enter Tryz.func123,Tryz.ntmps123
 go_wp2_with fail
 refine cc.mono ?_;clear cc;rintro e w1 ⟨rfl,hto,v,hb,ho,rfl⟩;obtain ⟨c0,c1,c2,cf⟩:=VQ hb;have HT:Hid (zX r v.ownBlock w v.ownBlock w1):=hto;have HB:Hid (w1.heap[r]?=some (.cells #[.pointer (some ⟨r,0,none⟩),v,.bool lo] 124 (0,0))):=hb;have HO:Hid (w1.ownsRow 0 5 1 v l.length (Lib.byteCells l)):=ho;clear hb ho hto;go_wp2_with (at_builtin;refine zbd rfl _ _ rfl 0 _ l rfl HO.out s rfl hl (Nat.zero_le _) ?_;intro v' w2 hown' hgrow hat;obtain ⟨ao,cap,N,rfl,d1,f1,HP⟩:=zcD hne HT.out HB.out hown' hgrow hat;clear hown' hgrow hat HB HO HT)
 exact bodyPost_ret (v:=.tuple #[.int .i64 (s.length:Int),.nilIface]) (by simp [results,Tryz.results123,go_sem]) rfl ⟨rfl,_,HP.out.1,HP.out.2⟩
structure zH (w0:World) (r:Nat) (q:Option Nat) (t:List UInt8) (w:World):Prop where
 at0:∃l lo,Xj r q l lo w∧(lo=true↔4096<t.length)∧(lo=false→l=t)∧l.length≤4096
 env:Below w0.heap.size w0 w
 hr:w0.heap.size≤r
 hq:∀k,q=some k→w0.heap.size≤k
theorem zH.to {w0 w w':World} {r:Nat} {q q':Option Nat} {t t':List UInt8} (h:zH w0 r q t w) (ht:zX r q w q' w') (ha:∃l lo,Xj r q' l lo w'∧(lo=true↔4096<t'.length)∧(lo=false→l=t')∧l.length≤4096):zH w0 r q' t' w':=by
 refine ⟨ha,?_,h.hr,?_⟩
 ·refine ⟨ht.os.trans h.env.os,ht.tape.trans h.env.tape,ht.output.trans h.env.output,Nat.le_trans h.env.size ht.size,fun k hk=>(ht.block k (Nat.lt_of_lt_of_le hk h.env.size) (by have:=h.hr;omega) fun e=>?_).trans (h.env.block k hk)⟩
  have:=h.hq k e;omega
 ·intro k hk
  rcases ht.row with e | e
  ·exact h.hq k (e ▸ hk)
  ·exact Nat.le_trans h.env.size (e k hk)
theorem zH.below {w0 w w':World} {r:Nat} {q:Option Nat} {t:List UInt8} (h:zH w0 r q t w) (hb:Below w.heap.size w w'):zH w0 r q t w':=by
 obtain ⟨l,lo,h1,h2,h3,h4⟩:=h.at0;exact h.to (zX.below hb) ⟨l,lo,h1.below hb,h2,h3,h4⟩
theorem zH.alloc {w0 w:World} {r:Nat} {q:Option Nat} {t:List UInt8} (h:zH w0 r q t w) (ob:Obj):zH w0 r q t (w.alloc ob):=h.below ((Below.refl _ w).alloc (Nat.le_refl _) _)
theorem zH.lt {w0 w:World} {r:Nat} {q:Option Nat} {t:List UInt8} (h:zH w0 r q t w):r<w.heap.size∧∀k,q=some k→k<w.heap.size:=by
 obtain ⟨l,lo,h1,-⟩:=h.at0;exact h1.lt
abbrev zcE:Ending:=.panicked [{ v:=zal 2 0,recovered:=false }]
def zr (w0:World) (r:Nat) (q:Option Nat) (t:List UInt8) (w:World) (res:Option (List UInt8)) (e:Ending) (w':World):Prop :=
 ∃q',zX r q w q' w'∧match res with
  | none=>e=zcE
  | some s=>e=.returned (.tuple #[])∧zH w0 r q' (t++s) w'
theorem zE (w0:World) (r:Nat) (q:Option Nat) (t s:List UInt8) (w:World) (h:zH w0 r q t w) (hs:s.length≤1099511627776) :
  Calls Tryz.prog 81 #[.pointer (some ⟨r,0,none⟩),.string (za s)] w (zr w0 r q t w (some s)):=by
 obtain ⟨l,lo,hat,hlo,hlt,hll⟩:=h.at0;have HW:Hid (zH w0 r q t w):=h;obtain ⟨⟨p,v,hb,hp,ho,hv⟩,hne⟩:=id hat;obtain ⟨c0,c1,c2,cf⟩:=VQ hb;have f2:=cf 2
 have hset:∀b,(Xj r q l b (w.setCell ⟨r,2,none⟩ (.bool b)))∧zX r q w q (w.setCell ⟨r,2,none⟩ (.bool b)):=fun b =>
  ⟨⟨⟨p,v,VR _ hb,hp,U6 ho (by rw [hv];exact hne),hv⟩,hne⟩,(zX.refl _ _ _).own _⟩
 have hcell:∀b,(w.setCell ⟨r,2,none⟩ (.bool b)).cell? ⟨r,2,none⟩=some (.bool b):=fun b=>World.cell?_setCell_same _ _ _ c2
 have HS:Hid (∀b,(Xj r q l b (w.setCell ⟨r,2,none⟩ (.bool b)))∧zX r q w q (w.setCell ⟨r,2,none⟩ (.bool b))):=hset;have cl:=zgD r q l lo w hat;clear h hb hp ho hv hne cf c0 c1 hset hat;have hss:(za s).size=s.length:=Zs s;cases lo with
 | true =>
  clear cl;have hc:=hcell true;have ht:4096<t.length:=hlo.1 rfl
  have HP:Hid (zr w0 r q t w (some s) (.returned (.tuple #[])) (w.setCell ⟨r,2,none⟩ (.bool true))) :=
   ⟨q,(HS.out true).2,rfl,HW.out.to (HS.out true).2 ⟨l,true,(HS.out true).1,⟨fun _=>by rw [List.length_append];omega,fun _=>rfl⟩,fun h=>(by cases h),hll⟩⟩
  clear HS HW hcell
  go_enter Tryz.func81,Tryz.ntmps81
  go_wp2
  exact bodyPost_ret (v:=.tuple #[]) (by simp [results,Tryz.results81,go_sem]) rfl HP.out
 | false =>
  obtain rfl:=hlt rfl;have ht:¬ 4096<l.length:=fun h9=>by have:=hlo.2 h9;cases this
  go_enter Tryz.func81,Tryz.ntmps81
  go_wp2_with fail
  refine cl.mono ?_;clear cl;rintro e w1 ⟨rfl,rfl⟩
  by_cases hbig:4096<l.length+s.length
  ·have hc:=hcell true
   have h9:(4096:Int)-(l.length:Int)<(s.length:Int):=by omega
   have HP:Hid (zr w0 r q l w1 (some s) (.returned (.tuple #[])) (w1.setCell ⟨r,2,none⟩ (.bool true))) :=
    ⟨q,(HS.out true).2,rfl,HW.out.to (HS.out true).2 ⟨l,true,(HS.out true).1,⟨fun _=>by rw [List.length_append];omega,fun _=>rfl⟩,fun h=>(by cases h),hll⟩⟩
   clear HS HW hcell;go_wp2
   exact bodyPost_ret (v:=.tuple #[]) (by simp [results,Tryz.results81,go_sem]) rfl HP.out
  ·have hc:=hcell false
   have h9:¬ (4096:Int)-(l.length:Int)<(s.length:Int):=by omega
   have cw:=zel r q l s false _ (HS.out false).1 (by omega)
   have HT:Hid (zX r q w1 q (w1.setCell ⟨r,2,none⟩ (.bool false))):=(HS.out false).2;clear HS hcell;have h10:decide ((4096:Int)-(l.length:Int)<(s.length:Int))=false:=decide_eq_false h9;go_wp2_with fail
   refine cw.mono ?_;clear cw;rintro e w2 ⟨rfl,q',hat2,hto2⟩;have hto:=HT.out.trans hto2
   have HP:Hid (zr w0 r q l w1 (some s) (.returned (.tuple #[])) w2) :=
    ⟨q',hto,rfl,HW.out.to hto ⟨l++s,false,hat2,⟨fun h=>(by cases h),fun h=>(by rw [List.length_append] at h;omega)⟩,fun _=>rfl,by rw [List.length_append];omega⟩⟩
   clear hat2 hto2 hto HT HW;go_wp2
   exact bodyPost_ret (v:=.tuple #[]) (by simp [results,Tryz.results81,go_sem]) rfl HP.out
def xY:Bool→Ending
 | true=>.returned (.tuple #[])
 | false=>zcE
theorem Zi (b:Bool) (w:World):Calls Tryz.prog 77 #[.bool b] w fun e w'=>w'=w∧e=xY b:=by
 cases b with
 | true =>
  go_enter Tryz.func77,Tryz.ntmps77
  go_wp2
  simp only [bodyPost,results,Tryz.results77]
  simp [xY]
 | false =>
  go_enter Tryz.func77,Tryz.ntmps77
  go_wp2
  exact ⟨rfl,rfl,rfl⟩
def tokO (k n:Int) (s:List UInt8):Option (List UInt8):=if (tkB k n s).2=0 then some (tkB k n s).1 else none
theorem zgE (k n:Int) (s:List UInt8) (hn0:-9223372036854775808≤n) (hn1:n≤9223372036854775807):(tkB k n s).1.length≤2*s.length+30:=by
 unfold tkB
 split
 ·exact zdz k n s hn0 hn1
 ·simp
theorem U7 (w0:World) (r:Nat) (q:Option Nat) (t:List UInt8) (k n a b:Int) (s:List UInt8) (w:World) (ht:ZV w0) (h:zH w0 r q t w) (hn0:-9223372036854775808≤n) (hn1:n≤9223372036854775807) (hs:s.length≤100000000) :
  Calls Tryz.prog 80 #[.pointer (some ⟨r,0,none⟩),.agg #[.int .i64 k,.string (za s),.int .i64 n,.int .i64 a,.int .i64 b]] w (zr w0 r q t w (tokO k n s)):=by
 obtain ⟨w1,hw1⟩:∃w1,w1=w.alloc (.cells #[.int .i64 k,.string (za s),.int .i64 n,.int .i64 a,.int .i64 b] 66):=⟨_,rfl⟩;have hb1:Below w.heap.size w w1:=by rw [hw1];exact (Below.refl _ w).alloc (Nat.le_refl _) _
 have p1:w1.heap[w.heap.size]?=some (.cells #[.int .i64 k,.string (za s),.int .i64 n,.int .i64 a,.int .i64 b] 66 (0,0)):=by rw [hw1];exact World.alloc_heap_new w _
 have h1:=h.below hb1;have cx:=zbc k n a b s w1 hn0 hn1 hs (ht.below h1.env (Nat.le_refl _));have hlen:=zgE k n s hn0 hn1;have c0:w1.cell? ⟨w.heap.size,0,none⟩=some (.int .i64 k):=by simp only [World.cell?,p1];rfl
 have c1:w1.cell? ⟨w.heap.size,1,none⟩=some (.string (za s)):=by simp only [World.cell?,p1];rfl
 have c2:w1.cell? ⟨w.heap.size,2,none⟩=some (.int .i64 n):=by simp only [World.cell?,p1];rfl
 have c3:w1.cell? ⟨w.heap.size,3,none⟩=some (.int .i64 a):=by simp only [World.cell?,p1];rfl
 have c4:w1.cell? ⟨w.heap.size,4,none⟩=some (.int .i64 b):=by simp only [World.cell?,p1];rfl
 have hw1':=hw1.symm;have HT1:Hid (zX r q w q w1):=zX.below hb1;have HW1:Hid (zH w0 r q t w1):=h1;clear hw1 hb1 p1 h h1 ht;obtain ⟨R,hR⟩:∃R,R=tokO k n s:=⟨_,rfl⟩;rw [←hR]
 unfold tokO at hR
 generalize tkB k n s=X at *;have HR:Hid (R=if X.2=0 then some X.1 else none):=hR
 clear hR
 go_enter Tryz.func80,Tryz.ntmps80
 go_wp2_with fail
 refine cx.mono ?_;clear cx c0 c1 c2 c3 c4;rintro e w2 ⟨rfl,hb2⟩;have HT2:Hid (zX r q w q w2):=HT1.out.trans (zX.below hb2);have HW2:Hid (zH w0 r q t w2):=HW1.out.below hb2;obtain ⟨u,er⟩:=X;simp only at hlen ⊢;have hR:R=if er=0 then some u else none:=HR.out
 clear HR;clear hb2 HT1 HW1
 by_cases he:er=0
 ·subst he
  have ca:=Zi true w2;have cp:=zE w0 r q t u w2 HW2.out (by omega)
  rw [if_pos rfl] at hR;subst hR;go_wp2_with fail
  refine ca.mono ?_;rintro e w3 ⟨rfl,rfl⟩;clear ca;simp only [xY];go_wp2_with fail
  refine cp.mono ?_;clear cp;rintro e w4 ⟨q',hto,rfl,hw4⟩;have HP:Hid (zr w0 r q t w (some u) (.returned (.tuple #[])) w4):=⟨q',HT2.out.trans hto,rfl,hw4⟩;clear hto hw4 HT2 HW2;go_wp2
  exact bodyPost_ret (v:=.tuple #[]) (by simp [results,Tryz.results80,go_sem]) rfl HP.out
 ·have ca:=Zi false w2
  have h1:((er:Int)==0)=false:=by rw [beq_eq_false_iff_ne];omega
  have h3:decide ((er:Int)=0)=false:=by rw [decide_eq_false_iff_not];omega
  have h5:decide (er=0)=false:=by rw [decide_eq_false_iff_not];exact he
  have h6:(er==0)=false:=by rw [beq_eq_false_iff_ne];exact he
  rw [if_neg he] at hR;subst hR;go_wp2_with fail
  refine ca.mono ?_;rintro e w3 ⟨rfl,rfl⟩;exact ⟨rfl,q,HT2.out,rfl⟩
theorem Yb (w0:World) (r:Nat) (q:Option Nat) (t:List UInt8) (s:List UInt8) (w:World) (ht:ZV w0) (h:zH w0 r q t w) (hs:s.length≤100000000) :
  Calls Tryz.prog 82 #[.pointer (some ⟨r,0,none⟩),.string (za s)] w (zr w0 r q t w (tokO 1 0 s)):=by
 have c:=U7 w0 r q t 1 0 0 0 s w ht h (by omega) (by omega) hs
 clear ht h;generalize tokO 1 0 s=R at *
 go_enter Tryz.func82,Tryz.ntmps82
 go_wp2_with fail
 refine c.mono ?_;clear c;rintro e w1 ⟨q',hto,hp⟩;cases R with
 | none=>subst hp;exact ⟨rfl,q',hto,rfl⟩
 | some u =>
  obtain ⟨rfl,hw⟩:=hp;have HP:Hid (zr w0 r q t w (some u) (.returned (.tuple #[])) w1):=⟨q',hto,rfl,hw⟩;clear hto hw;go_wp2
  exact bodyPost_ret (v:=.tuple #[]) (by simp [results,Tryz.results82,go_sem]) rfl HP.out
def levelsL:List (List UInt8 × Nat):=[([124,124],1),([38,38],2),([61,61],3),([33,61],3),([60],4),([60,61],4),([62],4),([62,61],4),([43],5),([45],5),([42],6),([47],6),([37],6)]
def levelOf (s:List UInt8):Nat:=((levelsL.find? fun p=>decide (p.1=s)).map (·.2)).getD 0
def vz:List Value:=levelsL.flatMap fun p=>[.string (za p.1),.int .i64 p.2]
def levelsV:Value:=.agg vz.toArray
def ZS (w:World):Prop:=w.rangeAt 1 0 vz
theorem zbj:(Tryz.prog.info? 191).map (·.size)=some vz.length:=by kernel_rfl
theorem zcF (w:World) (i:Nat) (h:i<13):(Instr.index 191 levelsV (.int .i64 (i:Int))).run Tryz.prog w=.ok (.agg #[.string (za (levelsL[i]'h).1),.int .i64 (levelsL[i]'h).2]) w:=by
 have hc:i=0∨i=1∨i=2∨i=3∨i=4∨i=5∨i=6∨i=7∨i=8∨i=9∨i=10∨i=11∨i=12:=by omega
 rcases hc with rfl | rfl | rfl | rfl | rfl | rfl | rfl | rfl | rfl | rfl | rfl | rfl | rfl
 all_goals rfl
theorem zfx {s:List UInt8} {i:Nat} (h:i<levelsL.length) (he:(levelsL[i]'h).1=s):levelOf s=(levelsL[i]'h).2:=by
 subst he;have key:∀j (hj:j<levelsL.length),levelOf (levelsL[j]'hj).1=(levelsL[j]'hj).2:=by decide
 exact key i h
theorem zem {s:List UInt8} (h:∀j (hj:j<levelsL.length),(levelsL[j]'hj).1≠s):levelOf s=0:=by
 unfold levelOf
 have:levelsL.find? (fun p=>decide (p.1=s))=none:=by
  rw [List.find?_eq_none];intro p hp;obtain ⟨j,hj,rfl⟩:=List.getElem_of_mem hp
  simpa using h j hj
 rw [this];rfl
theorem vA (s:List UInt8) (w:World) (ht:ZS w) :
  Calls Tryz.prog 120 #[.string (za s)] w fun e w'=>e=.returned (.int .i64 (levelOf s))∧Below w.heap.size w w':=by
 have HT:Hid (ZS w):=ht;clear ht
 go_enter Tryz.func120,Tryz.ntmps120
 go_wp2_with (refine wpList_load_mid rfl 191 _ rfl 1 0 rfl vz _ HT.out Tryz.underlying191 rfl zbj ?_)
 have HI:Hid (∀(wx:World) (i:Nat) (h:i<13),(Instr.index 191 levelsV (.int .i64 (i:Int))).run Tryz.prog wx=.ok (.agg #[.string (za (levelsL[i]'h).1),.int .i64 (levelsL[i]'h).2]) wx):=fun wx i h=>zcF wx i h
 rw [show Value.agg vz.toArray=levelsV from rfl]
 generalize levelsV=A at *
 go_loopw [6] (fun x wr=>∃i:Nat,i≤13∧x=.int .i64 i∧(∀j (hj:j<13),j<i→(levelsL[j]'hj).1≠s)∧Below w.heap.size w wr) (fun x _=>13-(intOf x).toNat)
 case atStart=>exact ⟨0,Nat.zero_le _,rfl,fun j _ h=>by omega,Below.refl _ _⟩
 case round =>
  obtain ⟨i,hi,rfl,hall,hbw⟩:=hrel;have HA:Hid (∀j (hj:j<13),j<i→(levelsL[j]'hj).1≠s):=hall;have HB:Hid (Below w.heap.size w wr):=hbw;have hszw:=hbw.size;clear hall hbw
  by_cases hlt:i<13
  ·have hidx:=fun wx=>HI.out wx i hlt
   obtain ⟨a,ha⟩:∃a,a=(levelsL[i]'hlt).1:=⟨_,rfl⟩;obtain ⟨b,hb⟩:∃b,b=(levelsL[i]'hlt).2:=⟨_,rfl⟩;rw [←ha,←hb] at hidx
   by_cases he:a=s
   ·have HE:Hid (levelOf s=b):=show _=_ by rw [hb];exact zfx hlt (by rw [←ha,he])
    subst he;clear ha hb;go_wp2
    refine bodyPost_ret (v:=.int .i64 b) (by simp [results,Tryz.results120,go_sem]) rfl ⟨by rw [HE.out],?_⟩
    exact HB.out.alloc hszw _
   ·have HE:Hid ((levelsL[i]'hlt).1≠s):=show _≠s by rw [←ha];exact he
    have hbe:(a==s)=false:=by rw [beq_eq_false_iff_ne];exact he
    clear ha hb he;go_wp2
    refine ⟨⟨i+1,by omega,by go_num,fun j hj hji=>?_,HB.out.alloc hszw _⟩,by simp [intOf];omega⟩
    by_cases h:j<i
    ·exact HA.out j hj h
    ·obtain rfl:j=i:=by omega
     exact HE.out
  ·obtain rfl:i=13:=by omega
   have HE:Hid (levelOf s=0):=zem (fun j hj=>HA.out j hj hj)
   go_wp2
   refine bodyPost_ret (v:=.int .i64 0) (by simp [results,Tryz.results120,go_sem]) rfl ⟨by rw [HE.out];rfl,?_⟩
   exact HB.out
theorem VS (s:List UInt8) (w:World) :
  Calls Tryz.prog 119 #[.string (za s)] w fun e w'=>e=.returned (.bool (s==[45]||s==[33]))∧w'=w:=by
 go_enter Tryz.func119,Tryz.ntmps119
 go_wp2
 all_goals simp_all [bodyPost,results,Tryz.results119]
inductive Ex where
 | mk (k:Nat) (s:List UInt8) (n:Int) (kids:List Ex) (line:Nat)
inductive zY (S:Nat→Prop) (w:World):Ex→Value→Prop where
 | leaf (k:Nat) (s:List UInt8) (n:Int) (line:Nat):zY S w (.mk k s n [] line) (.agg #[.int .i64 k,.string (za s),.int .i64 n,.slice none 0 0,.int .i64 line])
 | node (k:Nat) (s:List UInt8) (n:Int) (kids:List Ex) (line g cap:Nat) (us:List (List Value)) (hne:kids≠[]) (hlen:us.length=kids.length) (hB:S g) (hg:g<w.heap.size) (hc:kids.length≤cap) (hm:cap≤maxLen)
   (hcell:∀j u,us.flatten[j]?=some u→w.cell? ⟨g,j,none⟩=some u) (hfive:∀c∈us,c.length=5)
   (hk:∀(j:Nat) (x:Ex) (c:List Value),kids[j]?=some x→us[j]?=some c→zY S w x (.agg c.toArray)) :
   zY S w (.mk k s n kids line) (.agg #[.int .i64 k,.string (za s),.int .i64 n,.slice (some ⟨g,0,none⟩) kids.length cap,.int .i64 line])
abbrev ZO (B:Nat) (w:World) (x:Ex) (v:Value):Prop:=zY (fun k=>B≤k) w x v
theorem zY.kept {S:Nat→Prop} {w w':World} {x:Ex} {v:Value} (h:zY S w x v) (hs:w.heap.size≤w'.heap.size) (hb:∀k,S k→k<w.heap.size→w'.heap[k]?=w.heap[k]?):zY S w' x v:=by
 induction h with
 | leaf k s n line=>exact .leaf k s n line
 | node k s n kids line g cap us hne hlen hB hg hc hm hcell hfive _ ih =>
  refine .node k s n kids line g cap us hne hlen hB (Nat.lt_of_lt_of_le hg hs) hc hm (fun j u hj=>?_) hfive (fun j x c hx hc'=>ih j x c hx hc')
  rw [World.cell?_of_block (hb g hB hg)];exact hcell j u hj
theorem zY.wide {S S':Nat→Prop} {w:World} {x:Ex} {v:Value} (h:zY S w x v) (hS:∀k,S k→S' k):zY S' w x v:=by
 induction h with
 | leaf k s n line=>exact .leaf k s n line
 | node k s n kids line g cap us hne hlen hB hg hc hm hcell hfive _ ih=>exact .node k s n kids line g cap us hne hlen (hS _ hB) hg hc hm hcell hfive ih
theorem zY.low {S:Nat→Prop} {w:World} {x:Ex} {v:Value} (h:zY S w x v):zY (fun k=>S k∧k<w.heap.size) w x v:=by
 induction h with
 | leaf k s n line=>exact .leaf k s n line
 | node k s n kids line g cap us hne hlen hB hg hc hm hcell hfive _ ih=>exact .node k s n kids line g cap us hne hlen ⟨hB,hg⟩ hg hc hm hcell hfive ih
theorem ZO.kept {B:Nat} {w w':World} {x:Ex} {v:Value} (h:ZO B w x v) (hs:w.heap.size≤w'.heap.size) (hb:∀k,B≤k→k<w.heap.size→w'.heap[k]?=w.heap[k]?):ZO B w' x v:=zY.kept h hs hb
theorem zgF (B r:Nat) (w:World) (hc1:w.cell? ⟨r,1,none⟩=some (.slice none 0 0)) :
  Calls Tryz.prog 69 #[.pointer (some ⟨r,0,none⟩)] w fun e w'=>e=.returned (.string (za []))∧Below B w w':=by
 have hUS:∀(W:World) (q:Option Addr),(Builtin.unsafeString_ #[157,3] 9 #[.pointer q,.int .i64 0]).run Tryz.prog W=.ok (.string .empty) W:=fun W q=>Lib.run_unsafeString_none W _ _ _ q
 have c1:w.drew.cell? ⟨r,1,none⟩=some (.slice none 0 0):=hc1;have hSD:(Builtin.unsafeSliceData_ #[120] 157 #[.slice none 0 0]).run Tryz.prog w.drew=.ok (.pointer none) w.drew:=rfl;have mixed:Tryz.prog.follows Departure.mixedOrders=true:=rfl
 go_enter Tryz.func69,Tryz.ntmps69
 go_wp2
 go_region_o
 all_goals (go_wp2;exact bodyPost_ret (v:=.string .empty) (by simp [results,Tryz.results69,go_sem]) rfl ⟨rfl,Below.drew (Below.refl B w)⟩)
def zi2:List (List (List UInt8)):=[[[124,124]],[[38,38]],[[61,61],[33,61]],[[60],[60,61],[62],[62,61]],[[43],[45]],[[42],[47],[37]]]
def rowT (i:Nat):List (List UInt8):=(zi2[i]?).getD []
theorem zgG:∀i,i<6→∀s∈rowT i,levelOf s=i+1:=by decide
theorem zfy {s:List UInt8} {i:Nat} (h:levelOf s=i+1):s∈rowT i:=by
 unfold levelOf at h
 cases hf:levelsL.find? fun p=>decide (p.1=s) with
 | none=>rw [hf] at h;simp at h
 | some p =>
  rw [hf] at h;simp only [Option.map_some,Option.getD_some] at h;have hm:=List.mem_of_find?_eq_some hf;have he:p.1=s:=by simpa using List.find?_some hf
  subst he;have key:∀p∈levelsL,∀i,i<7→p.2=i+1→p.1∈rowT i:=by decide
  have h6:p.2≤6:=by
   have:∀p∈levelsL,p.2≤6:=by decide
   exact this p hm
  exact key p hm i (by omega) h
abbrev Xm (l:List (List UInt8)):Obj:=.cells (l.map fun x=>Value.string (za x)).toArray 9
abbrev lnO (N:Nat):Obj:=.cells #[.slice (some ⟨N,0,none⟩) 1 1,.slice (some ⟨N+1,0,none⟩) 1 1,.slice (some ⟨N+2,0,none⟩) 2 2,.slice (some ⟨N+3,0,none⟩) 4 4,.slice (some ⟨N+4,0,none⟩) 2 2,.slice (some ⟨N+5,0,none⟩) 3 3] 154
abbrev lnW (w:World):World:=((((((w.alloc (Xm (rowT 0))).alloc (Xm (rowT 1))).alloc (Xm (rowT 2))).alloc (Xm (rowT 3))).alloc (Xm (rowT 4))).alloc (Xm (rowT 5))).alloc (lnO w.heap.size)
theorem QN {w:World} {N:Nat} {l:List (List UInt8)} (p:w.heap[N]?=some (Xm l)) (k:Nat) (h:k<l.length):w.cell? ⟨N,k,none⟩=some (.string (za l[k])):=by
 rw [cell_of_row _ _ _ _ _ _ p]
 simp [h]
theorem zgH (w:World):Below w.heap.size w (lnW w)∧(∀i,i<6→(lnW w).heap[w.heap.size+i]?=some (Xm (rowT i)))∧(lnW w).heap[w.heap.size+6]?=some (lnO w.heap.size):=by
 refine ⟨?_,?_,?_⟩
 ·refine Below.alloc (Below.alloc (Below.alloc (Below.alloc (Below.alloc (Below.alloc (Below.alloc (Below.refl _ w) (Nat.le_refl _) _) ?_ _) ?_ _) ?_ _) ?_ _) ?_ _) ?_ _ <;> simp <;> omega
 ·intro i hi
  have new:∀(W:World) (o:Obj),W.heap.size=w.heap.size+i→(W.alloc o).heap[w.heap.size+i]?=some o:=fun W o h=>by rw [←h];exact World.alloc_heap_new W o
  have old:∀(W:World) (o:Obj),w.heap.size+i<W.heap.size→(W.alloc o).heap[w.heap.size+i]?=W.heap[w.heap.size+i]?:=fun W o h=>Below.heap_alloc _ _ _ h
  have hc:i=0∨i=1∨i=2∨i=3∨i=4∨i=5:=by omega
  rcases hc with rfl | rfl | rfl | rfl | rfl | rfl
  ·rw [old _ _ (by simp <;> omega),old _ _ (by simp <;> omega),old _ _ (by simp <;> omega),old _ _ (by simp <;> omega),old _ _ (by simp <;> omega),old _ _ (by simp <;> omega),new _ _ (by simp)]
  ·rw [old _ _ (by simp <;> omega),old _ _ (by simp <;> omega),old _ _ (by simp <;> omega),old _ _ (by simp <;> omega),old _ _ (by simp <;> omega),new _ _ (by simp)]
  ·rw [old _ _ (by simp <;> omega),old _ _ (by simp <;> omega),old _ _ (by simp <;> omega),old _ _ (by simp <;> omega),new _ _ (by simp)]
  ·rw [old _ _ (by simp <;> omega),old _ _ (by simp <;> omega),old _ _ (by simp <;> omega),new _ _ (by simp)]
  ·rw [old _ _ (by simp <;> omega),old _ _ (by simp <;> omega),new _ _ (by simp)]
  ·rw [old _ _ (by simp <;> omega),new _ _ (by simp)]
 ·have:=World.alloc_heap_new ((((((w.alloc (Xm (rowT 0))).alloc (Xm (rowT 1))).alloc (Xm (rowT 2))).alloc (Xm (rowT 3))).alloc (Xm (rowT 4))).alloc (Xm (rowT 5))) (lnO w.heap.size)
  simpa using this
theorem zfz {w:World} {N M:Nat} (p:w.heap[M]?=some (lnO N)) (i:Nat) (hi:i<6):w.cell? ⟨M,i,none⟩=some (.slice (some ⟨N+i,0,none⟩) (rowT i).length (rowT i).length):=by
 have hc:i=0∨i=1∨i=2∨i=3∨i=4∨i=5:=by omega
 rcases hc with rfl | rfl | rfl | rfl | rfl | rfl <;> (simp only [World.cell?,p];rfl)
theorem zbk (s:List UInt8) (w:World) :
  Calls Tryz.prog 118 #[.string (za s)] w fun e w'=>e=.returned (.int .i64 ((levelOf s:Int)-1))∧Below w.heap.size w w':=by
 obtain ⟨w1,hw1⟩:∃w1,w1=lnW w:=⟨_,rfl⟩;obtain ⟨hb1,hrow,hout⟩:=zgH w;rw [←hw1] at hb1 hrow hout;have HROW:Hid (∀i,i<6→w1.heap[w.heap.size+i]?=some (Xm (rowT i))):=hrow;have HOUT:Hid (w1.heap[w.heap.size+1+1+1+1+1+1]?=some (lnO w.heap.size)):=hout;have HB:Hid (Below w.heap.size w w1):=hb1;have hw1':=hw1.symm;obtain ⟨L,hL⟩:∃L,L=levelOf s:=⟨_,rfl⟩;rw [←hL];have HIN:Hid (∀i,i<6→s∈rowT i→L=i+1):=fun i hi h=>hL.trans (zgG i hi s h)
 have HOU:Hid (∀i,L=i+1→s∈rowT i):=fun i h=>zfy (hL.symm.trans h)
 have HL6:Hid (L≤6):=show L≤6 by
  rw [hL]
  unfold levelOf
  cases h:levelsL.find? fun p=>decide (p.1=s) with
  | none=>simp
  | some p =>
   have hm:=List.mem_of_find?_eq_some h
   have:∀p∈levelsL,p.2≤6:=by decide
   exact this p hm
 have HLEN:Hid (∀i,i<6→(rowT i).length≤4):=show ∀i,i<6→(rowT i).length≤4 by decide
 clear hb1 hrow hout hw1 hL
 go_enter Tryz.func118,Tryz.ntmps118
 go_wp2_with fail
 go_loopw [4] (fun vi wr=>∃i:Nat,i≤6∧vi=.int .i64 (i:Int)∧wr=w1∧(L=0∨i<L)) (fun vi _=>6-(intOf vi).toNat)
 case atStart=>exact ⟨0,by omega,rfl,hw1',by omega⟩
 case round =>
  obtain ⟨i,hi,rfl,hwr,hLi⟩:=hrel;have hwr':=hwr.symm;subst hwr'
  by_cases hlt:i<6
  ·have hi1:(i:Int)<6:=by omega
   have c0:=zfz HOUT.out i hlt;obtain ⟨n,hn⟩:∃n,n=(rowT i).length:=⟨_,rfl⟩;rw [←hn] at c0;have hn4:n≤4:=by rw [hn];exact HLEN.out i hlt
   have HN:Hid (n=(rowT i).length):=hn;clear hn;go_wp2_with fail
   go_loopw [5] (fun vk wr=>∃k:Nat,k≤n∧vk=.int .i64 (k:Int)∧wr=w1∧∀j (h:j<(rowT i).length),j<k→(rowT i)[j]≠s) (fun vk _=>n-(intOf vk).toNat)
   case atStart=>exact ⟨0,by omega,rfl,rfl,fun j h1 h2=>absurd h2 (Nat.not_lt_zero _)⟩
   case round =>
    obtain ⟨k,hk,rfl,hwr,hno⟩:=hrel;have hwr':=hwr.symm;subst hwr';have HNO:Hid (∀j (h:j<(rowT i).length),j<k→(rowT i)[j]≠s):=hno;clear hno
    by_cases hkl:k<n
    ·have hk1:(k:Int)<(n:Int):=by omega
     have hkr:k<(rowT i).length:=by rw [←HN.out];exact hkl
     have c1:=QN (HROW.out i hlt) k hkr;obtain ⟨u,hu⟩:∃u,u=(rowT i)[k]:=⟨_,rfl⟩;rw [←hu] at c1
     by_cases he:u=s
     ·have hLL:L=i+1:=HIN.out i hlt (by rw [←he,hu];exact List.getElem_mem _)
      subst he;have HV:Hid (((L:Int)-1)=(i:Int)):=show _=_ by omega
      clear hLL hu hLi;go_wp2
      exact bodyPost_ret (v:=.int .i64 (i:Int)) (by simp [results,Tryz.results118,go_sem]) rfl ⟨by rw [HV.out],HB.out⟩
     ·have he1:(u==s)=false:=by simpa using he
      have HNX:Hid (∀j (h:j<(rowT i).length),j<k+1→(rowT i)[j]≠s):=fun j h h2=>by
       rcases Nat.lt_or_ge j k with h3 | h3
       ·exact HNO.out j h h3
       ·obtain rfl:j=k:=by omega
        rw [←hu];exact he
      clear hu he hLi HNO;go_wp2
      exact ⟨⟨k+1,by omega,by go_num,trivial,HNX.out⟩,by simp [intOf];omega⟩
    ·obtain rfl:k=n:=by omega
     have hk1:¬ (k:Int)<(k:Int):=by omega
     have hLx:L=0∨i+1<L:=by
      rcases hLi with h | h
      ·exact .inl h
      ·rcases Nat.lt_or_ge (i+1) L with h2 | h2
       ·exact .inr h2
       ·exfalso
        obtain ⟨j,hj,e⟩:=List.getElem_of_mem (HOU.out i (by omega))
        exact HNO.out j hj (by rw [HN.out];exact hj) e
     have HLX:Hid (L=0∨i+1<L):=hLx;clear hLx hLi HNO;go_wp2
     exact ⟨⟨i+1,by omega,by go_num,trivial,HLX.out⟩,by simp [intOf];omega⟩
  ·obtain rfl:i=6:=by omega
   have hL0:L=0:=by have:=HL6.out;omega
   subst hL0;clear hLi;go_wp2
   exact bodyPost_ret (v:=.int .i64 (-1)) (by simp [results,Tryz.results118,go_sem]) rfl ⟨rfl,HB.out⟩
end Go.Proofs.YtpejpbbdgblbeaaGreatDoor
