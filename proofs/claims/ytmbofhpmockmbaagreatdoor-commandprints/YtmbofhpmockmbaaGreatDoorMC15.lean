import Derived.Test.YtmbofhpmockmbaaGreatDoorMC13
import Derived.Deep.RegionHeld3
import Derived.RegionDies
namespace Go.Proofs.YtmbofhpmockmbaaGreatDoor
open Go.RowKit Go.Shelf
set_option maxHeartbeats 16000000
set_option maxRecDepth 100000
def XG (t:Tk):PR Ex→PR Ex
 | .error a=>.error a
 | .ok (e,ts)=>.ok (.mk 6 t.s 0 [e] t.line,ts)
theorem Vt (r g o cap:Nat) (t:Tk) (ts:List Tk) (w:World) (res:PR Ex) (h:zj r g o cap (t::ts) w) (hE:zq (t::ts)) (hk:t.k=4) (hs:(t.s==[45]||t.s==[33])=true)
  (hun:∀V o1 cap1,zj r g o1 cap1 ts V→zb r w V→Calls Tryz.prog 119 #[.pointer (some ⟨r,0,none⟩)] V (zr r g V res)) :
  Calls Tryz.prog 119 #[.pointer (some ⟨r,0,none⟩)] w (zr r g w (XG t res)):=by
 have hr:=h.lt.1;have ak:=h.lt.2;have ca:=fun w=>XD t.s w
 simp only [hs] at ca;have h0:=h.alloc zJ;have ch:=ZD r g o cap t ts _ h0;obtain ⟨w2,D⟩:∃w2,w2=((w.alloc zJ).alloc (Zc t)).alloc (.cells #[.int .i64 4,.string (za t.s),.int .i64 t.n,.int .i64 t.line,.int .i64 t.at0] 142):=⟨_,rfl⟩;have h2:zj r g o cap (t::ts) w2:=by rw [D];exact (h0.alloc _).alloc _
 have k2:zb r w w2:=by rw [D];exact (((zb.refl r w).alloc _).alloc _).alloc _
 have cs:=xK r g o cap t ts w2 h2 (hE.tail (by omega)).ne
 have Z:Hid (w2=((w.alloc zJ).alloc (Zc t)).alloc (.cells #[.int .i64 4,.string (za t.s),.int .i64 t.n,.int .i64 t.line,.int .i64 t.at0] 142)):=D;clear h h0
 go_enter Tryz.func119,Tryz.ntmps119
 go_wp2_with fail
 refine ch.mono ?_;clear ch;rintro e V ⟨rfl,rfl⟩;simp only [YH];go_wp2_with (go_at_call 146;refine (ca _).mono ?_;rintro e V ⟨rfl,rfl⟩)
 rw [←Z.out];refine cs.mono ?_;clear cs ca;rintro e w3 ⟨rfl,K⟩
 have n2:w2.heap[w.heap.size+1+1]?=some (.cells #[.int .i64 4,.string (za t.s),.int .i64 t.n,.int .i64 t.line,.int .i64 t.at0] 142 (0,0)):=by
  have Y:=World.alloc_heap_new ((w.alloc zJ).alloc (Zc t)) (.cells #[.int .i64 4,.string (za t.s),.int .i64 t.n,.int .i64 t.line,.int .i64 t.at0] 142);rw [←D,show ((w.alloc zJ).alloc (Zc t)).heap.size=w.heap.size+1+1 by simp] at Y
  exact Y
 have n0:w2.heap[w.heap.size]?=some zJ:=by
  rw [D,Below.heap_alloc _ _ _ (by simp;omega),Below.heap_alloc _ _ _ (by simp)]
  exact World.alloc_heap_new _ _
 have R:zb r w w3:=by rw [K];exact k2.setCell 0 _
 have T:zb r w2 w3:=by rw [K];exact (zb.refl r w2).setCell 0 _
 have h3:zj r g (o+5) (cap-1) ts w3:=by rw [K];exact h2.next
 have m2:=(T.block _ (Array.getElem?_eq_some_iff.1 n2).1 (by omega)).trans n2
 have m0:=(T.block _ (Array.getElem?_eq_some_iff.1 n0).1 (by omega)).trans n0
 have cu:∀W:World,W.heap=w3.heap→W.os=w3.os→W.tape=w3.tape→W.output=w3.output→Calls Tryz.prog 119 #[.pointer (some ⟨r,0,none⟩)] W fun e w'=>zb r w3 w'∧zr r g W res e w':=fun W e1 e2 e3 e4 =>
  (hun W _ _ (h3.keep (by rw [e1]) (by rw [e1])) ⟨e2.trans R.os,e3.trans R.tape,e4.trans R.output,by rw [e1];exact R.size,fun k hk hr=>by rw [e1];exact R.block k hk hr⟩).mono fun e w' h =>
   ⟨⟨h.1.os.trans e2,h.1.tape.trans e3,h.1.output.trans e4,by rw [←e1];exact h.1.size,fun k hk hr=>by rw [←e1];exact h.1.block k (by rw [e1];exact hk) hr⟩,h⟩
 have U:Hid (zb r w w3):=R;have ag:w.heap.size+1+1<w3.heap.size:=(Array.getElem?_eq_some_iff.1 m2).1;have c1:w3.cell? ⟨w.heap.size+1+1,1,none⟩=some (.string (za t.s)):=by simp only [World.cell?,m2];rfl
 have c3:w3.cell? ⟨w.heap.size+1+1,3,none⟩=some (.int .i64 t.line):=by simp only [World.cell?,m2];rfl
 clear hun K n2 n0 R T h3 h2 k2 D Z hE;rcases res with a | ⟨x,us⟩
 ·have J:∀W:World,W.heap=w3.heap→W.os=w3.os→W.tape=w3.tape→W.output=w3.output→Calls Tryz.prog 119 #[.pointer (some ⟨r,0,none⟩)] W fun e w'=>e=ZQ a∧zb r w w':=fun W e1 e2 e3 e4=>(cu W e1 e2 e3 e4).mono fun e w' h=>⟨h.2.2,U.out.trans h.1⟩
  clear cu;go_wp2_with fail
  go_region_dies
  all_goals (go_wp2_with fail;refine (J _ (by rfl) (by rfl) (by rfl) (by rfl)).mono ?_;rintro e y ⟨rfl,z⟩;exact ⟨rfl,z,rfl⟩)
 ·have J:∀W:World,W.heap=w3.heap→W.os=w3.os→W.tape=w3.tape→W.output=w3.output→Calls Tryz.prog 119 #[.pointer (some ⟨r,0,none⟩)] W fun e w'=>∃(a:Int) (b:ByteArray) (c:Int) (E:Option Addr) (H G:Nat) (l:Int),e=.returned (.agg #[.int .i64 a,.string b,.int .i64 c,.slice E H G,.int .i64 l]) ∧
    w'.cell? ⟨w.heap.size+1+1,1,none⟩=some (.string (za t.s))∧w'.cell? ⟨w.heap.size+1+1,3,none⟩=some (.int .i64 t.line)∧w'.heap[w.heap.size]?=some zJ∧Hid (zb r w w')∧w3.heap.size≤w'.heap.size ∧
    Hid (zM w3.heap.size w' x (.agg #[.int .i64 a,.string b,.int .i64 c,.slice E H G,.int .i64 l]))∧Hid (∃o4 A,zj r g o4 A us w'):=fun W e1 e2 e3 e4=>(cu W e1 e2 e3 e4).mono fun e w' h=>by
   obtain ⟨z,-,v,o4,A,rfl,Y,ai⟩:=h;obtain ⟨a,b,c,E,H,G,l,rfl⟩:=Y.agg;exact ⟨a,b,c,E,H,G,l,rfl,z.cell (p:=⟨w.heap.size+1+1,1,none⟩) (by simp;omega) c1,z.cell (p:=⟨w.heap.size+1+1,3,none⟩) (by simp;omega) c3,(z.block _ (by omega) (by omega)).trans m0,U.out.trans z,z.size,(by rw [←e1];exact Y:zM w3.heap.size w' x _),⟨o4,A,ai⟩⟩
  clear cu m0 m2;go_wp2_with fail
  go_region_held3 (fun W=>W.cell? ⟨w.heap.size+1+1,1,none⟩=some (.string (za t.s))∧W.cell? ⟨w.heap.size+1+1,3,none⟩=some (.int .i64 t.line)) (first | go_keep | exact ⟨Yn _ _ _ _ _ (by omega) (N _),Yn _ _ _ _ _ (by omega) (O _)⟩) (first | (go_at_call 119;refine (J _ (by rfl) (by rfl) (by rfl) (by rfl)).mono ?_;rintro e y ⟨a,b,c,E,H,G,l,rfl,ad,ae,I,L,Q,X,ab⟩;have q0:y.cell? ⟨w.heap.size,0,none⟩=some (.int .i64 0):=(by simp only [World.cell?,I];rfl);have q1:y.cell? ⟨w.heap.size,1,none⟩=some (.string ⟨#[]⟩):=(by simp only [World.cell?,I];rfl);have q2:y.cell? ⟨w.heap.size,2,none⟩=some (.int .i64 0):=(by simp only [World.cell?,I];rfl);have q3:y.cell? ⟨w.heap.size,3,none⟩=some (.slice none 0 0):=(by simp only [World.cell?,I];rfl);have q4:y.cell? ⟨w.heap.size,4,none⟩=some (.int .i64 0):=(by simp only [World.cell?,I];rfl);have qf:∀j,y.frozen? ⟨w.heap.size,j,none⟩=false:=(fun j=>by simp only [World.frozen?,I];simp);have aj:∀ob j,(y.alloc ob).frozen? ⟨w.heap.size,j,none⟩=false:=(fun ob j=>by simp only [World.frozen?,Below.heap_alloc y ob w.heap.size (Array.getElem?_eq_some_iff.1 I).1,I];simp);have al:=zc q0;have ah:=zc q1;have af:=zc q2;have am:=zc q3;have an:=zc q4;have N:=zc ad;have O:=zc ae))
  obtain ⟨o4,A,M⟩:=ab.out;have aa:=World.block_lt_of_cell? y _ q0;have p5:(y.alloc (.cells #[.int .i64 a,.string b,.int .i64 c,.slice E H G,.int .i64 l] 90)).heap[w.heap.size]?=some zJ:=(Below.heap_alloc _ _ _ aa).trans I;obtain ⟨z0,z1,z2,z3,z4⟩:=zi p5 (.int .i64 6) (.string (za t.s)) (.int .i64 0) (.slice (some ⟨y.heap.size,0,none⟩) 1 1) (.int .i64 t.line)
  change Exit.then _ _ _ _ (set5 (y.alloc (.cells #[.int .i64 a,.string b,.int .i64 c,.slice E H G,.int .i64 l] 90)) w.heap.size (.int .i64 6) (.string (za t.s)) (.int .i64 0) (.slice (some ⟨y.heap.size,0,none⟩) 1 1) (.int .i64 t.line))
  have hp:zr r g w (XG t (.ok (x,us))) (.returned (.agg #[.int .i64 6,.string (za t.s),.int .i64 0,.slice (some ⟨y.heap.size,0,none⟩) 1 1,.int .i64 t.line])) (set5 (y.alloc (.cells #[.int .i64 a,.string b,.int .i64 c,.slice E H G,.int .i64 l] 90)) w.heap.size (.int .i64 6) (.string (za t.s)) (.int .i64 0) (.slice (some ⟨y.heap.size,0,none⟩) 1 1) (.int .i64 t.line)) :=
   zr.of_set5 (B:=w3.heap.size) 6 t.s 0 t.line (L.out.alloc _) (Nat.le_refl _) hr ak (zI.one 90 (c:=[.int .i64 a,.string b,.int .i64 c,.slice E H G,.int .i64 l]) X.out rfl Q) (by omega) (M.keep (Below.heap_alloc _ _ _ (by have:=L.out.size;omega)) (Below.heap_alloc _ _ _ (by have:=L.out.size;omega)))
  generalize set5 (y.alloc (.cells #[.int .i64 a,.string b,.int .i64 c,.slice E H G,.int .i64 l] 90)) w.heap.size (.int .i64 6) (.string (za t.s)) (.int .i64 0) (.slice (some ⟨y.heap.size,0,none⟩) 1 1) (.int .i64 t.line)=W at *;have HP:Hid (zr r g w (XG t (.ok (x,us))) (.returned (.agg #[.int .i64 6,.string (za t.s),.int .i64 0,.slice (some ⟨y.heap.size,0,none⟩) 1 1,.int .i64 t.line])) W):=hp;clear hp p5 aa M q0 q1 q2 q3 q4 qf aj al ah af am an N O ad ae c1 c3 I L Q X ab J U ag;go_wp2
  exact bodyPost_ret (v:=.agg #[.int .i64 6,.string (za t.s),.int .i64 0,.slice (some ⟨y.heap.size,0,none⟩) 1 1,.int .i64 t.line]) (by simp [results,Tryz.results119,go_sem,z0,z1,z2,z3,z4]) rfl HP.out
theorem ud (r g o cap:Nat) (t:Tk) (ts:List Tk) (w:World) (res:PR Ex) (h:zj r g o cap (t::ts) w) (hs:¬(t.k=4∧(t.s=[45]∨t.s=[33])))
  (hwp:∀O,zj r g o cap (t::ts) O→zb r w O→Calls Tryz.prog 147 #[.pointer (some ⟨r,0,none⟩)] O (zr r g O res)) :
  Calls Tryz.prog 119 #[.pointer (some ⟨r,0,none⟩)] w (zr r g w res):=by
 have hr:=h.lt.1;have aa:=h.lt.2;have U:=fun w=>XD t.s w
 have h0:=h.alloc zJ;have ch:=ZD r g o cap t ts _ h0;obtain ⟨w2,J⟩:∃w2,w2=((w.alloc zJ).alloc (Zc t)).alloc (Zc t):=⟨_,rfl⟩;have h2:zj r g o cap (t::ts) w2:=by rw [J];exact (h0.alloc _).alloc _
 have X:zb r w w2:=by rw [J];exact (((zb.refl r w).alloc _).alloc _).alloc _
 have V:=hwp w2 h2 X
 have n0:w2.heap[w.heap.size]?=some zJ:=by
  rw [J,Below.heap_alloc _ _ _ (by simp;omega),Below.heap_alloc _ _ _ (by simp)]
  exact World.alloc_heap_new _ _
 have L:w.heap.size<w2.heap.size:=(Array.getElem?_eq_some_iff.1 n0).1;have Q:Hid (w2.heap[w.heap.size]?=some zJ):=n0;have N:Hid (zb r w w2):=X;have K:Hid (w2=((w.alloc zJ).alloc (Zc t)).alloc (Zc t)):=J;clear h h0 h2 X J hwp n0
 have R:∀e z,zr r g w2 res e z→(∃a,res=.error a∧e=ZQ a∧zb r w z)∨∃(x:Ex) (I:List Tk) (a:Int) (b:ByteArray) (c:Int) (D:Option Addr) (A E:Nat) (l:Int),res=.ok (x,I)∧e=.returned (.agg #[.int .i64 a,.string b,.int .i64 c,.slice D A E,.int .i64 l])∧z.heap[w.heap.size]?=some zJ ∧
   zr r g w (.ok (x,I)) (.returned (.agg #[.int .i64 a,.string b,.int .i64 c,.slice D A E,.int .i64 l])) (set5 z w.heap.size (.int .i64 a) (.string b) (.int .i64 c) (.slice D A E) (.int .i64 l)):=by
  rintro e z ⟨M,y⟩;rcases res with a | ⟨x,I⟩
  ·exact .inl ⟨a,rfl,y,N.out.trans M⟩
  ·obtain ⟨v,o3,ad,rfl,hx,Z⟩:=y
   obtain ⟨a,b,c,D,A,E,l,rfl⟩:=hx.agg;exact .inr ⟨x,I,a,b,c,D,A,E,l,rfl,rfl,(M.block _ L (by omega)).trans Q.out,zr.of_set5' (N.out.trans M) (Nat.le_refl _) hr aa hx L Z⟩
 have H:Hid (∀e z,zr r g w2 res e z→(∃a,res=.error a∧e=ZQ a∧zb r w z)∨∃(x:Ex) (I:List Tk) (a:Int) (b:ByteArray) (c:Int) (D:Option Addr) (A E:Nat) (l:Int),res=.ok (x,I)∧e=.returned (.agg #[.int .i64 a,.string b,.int .i64 c,.slice D A E,.int .i64 l])∧z.heap[w.heap.size]?=some zJ ∧
   zr r g w (.ok (x,I)) (.returned (.agg #[.int .i64 a,.string b,.int .i64 c,.slice D A E,.int .i64 l])) (set5 z w.heap.size (.int .i64 a) (.string b) (.int .i64 c) (.slice D A E) (.int .i64 l))):=R
 clear R Q N L
 go_enter Tryz.func119,Tryz.ntmps119
 go_wp2_with fail
 refine ch.mono ?_;clear ch;rintro e O ⟨rfl,rfl⟩;simp only [YH]
 by_cases h4:t.k=4
 ·have hb:(t.s==[45]||t.s==[33])=false:=by
   rw [Bool.or_eq_false_iff,beq_eq_false_iff_ne,beq_eq_false_iff_ne];exact ⟨fun e=>hs ⟨h4,.inl e⟩,fun e=>hs ⟨h4,.inr e⟩⟩
  simp only [hb] at U;have ab:(t.k:Int)=4:=by omega
  go_wp2_with (go_at_call 146;refine (U _).mono ?_;rintro e O ⟨rfl,rfl⟩)
  have hO:Zc t=.cells #[.int .i64 4,.string (za t.s),.int .i64 t.n,.int .i64 t.line,.int .i64 t.at0] 142:=by simp only [Zc,h4];rfl
  rw [show ((w.alloc zJ).alloc (Zc t)).alloc (.cells #[.int .i64 4,.string (za t.s),.int .i64 t.n,.int .i64 t.line,.int .i64 t.at0] 142)=w2 by rw [←hO];exact K.out.symm]
  refine V.mono ?_;clear V U K;intro e z y;rcases H.out e z y with ⟨a,rfl,rfl,hk⟩ | ⟨x,I,a,b,c,D,A,E,l,rfl,rfl,G,T⟩
  ·exact ⟨rfl,hk,rfl⟩
  ·obtain ⟨z0,Y,z2,z3,W⟩:=zi G (.int .i64 a) (.string b) (.int .i64 c) (.slice D A E) (.int .i64 l)
   have q0:z.cell? ⟨w.heap.size,0,none⟩=some (.int .i64 0):=by simp only [World.cell?,G];rfl
   have q1:z.cell? ⟨w.heap.size,1,none⟩=some (.string ⟨#[]⟩):=by simp only [World.cell?,G];rfl
   have q2:z.cell? ⟨w.heap.size,2,none⟩=some (.int .i64 0):=by simp only [World.cell?,G];rfl
   have q3:z.cell? ⟨w.heap.size,3,none⟩=some (.slice none 0 0):=by simp only [World.cell?,G];rfl
   have q4:z.cell? ⟨w.heap.size,4,none⟩=some (.int .i64 0):=by simp only [World.cell?,G];rfl
   have qf:∀j,z.frozen? ⟨w.heap.size,j,none⟩=false:=fun j=>by simp only [World.frozen?,G];simp
   have HP:Hid (zr r g w (.ok (x,I)) (.returned (.agg #[.int .i64 a,.string b,.int .i64 c,.slice D A E,.int .i64 l])) (set5 z w.heap.size (.int .i64 a) (.string b) (.int .i64 c) (.slice D A E) (.int .i64 l))):=T;clear H y T G;go_wp2
   exact bodyPost_ret (v:=.agg #[.int .i64 a,.string b,.int .i64 c,.slice D A E,.int .i64 l]) (by simp [results,Tryz.results119,go_sem,z0,Y,z2,z3,W]) rfl HP.out
 ·have ab:¬(t.k:Int)=4:=by omega
  go_wp2_with fail
  rw [←K.out];refine V.mono ?_;clear V U K;intro e z y;rcases H.out e z y with ⟨a,rfl,rfl,hk⟩ | ⟨x,I,a,b,c,D,A,E,l,rfl,rfl,G,T⟩
  ·exact ⟨rfl,hk,rfl⟩
  ·obtain ⟨z0,Y,z2,z3,W⟩:=zi G (.int .i64 a) (.string b) (.int .i64 c) (.slice D A E) (.int .i64 l)
   have q0:z.cell? ⟨w.heap.size,0,none⟩=some (.int .i64 0):=by simp only [World.cell?,G];rfl
   have q1:z.cell? ⟨w.heap.size,1,none⟩=some (.string ⟨#[]⟩):=by simp only [World.cell?,G];rfl
   have q2:z.cell? ⟨w.heap.size,2,none⟩=some (.int .i64 0):=by simp only [World.cell?,G];rfl
   have q3:z.cell? ⟨w.heap.size,3,none⟩=some (.slice none 0 0):=by simp only [World.cell?,G];rfl
   have q4:z.cell? ⟨w.heap.size,4,none⟩=some (.int .i64 0):=by simp only [World.cell?,G];rfl
   have qf:∀j,z.frozen? ⟨w.heap.size,j,none⟩=false:=fun j=>by simp only [World.frozen?,G];simp
   have HP:Hid (zr r g w (.ok (x,I)) (.returned (.agg #[.int .i64 a,.string b,.int .i64 c,.slice D A E,.int .i64 l])) (set5 z w.heap.size (.int .i64 a) (.string b) (.int .i64 c) (.slice D A E) (.int .i64 l))):=T;clear H y T G;go_wp2
   exact bodyPost_ret (v:=.agg #[.int .i64 a,.string b,.int .i64 c,.slice D A E,.int .i64 l]) (by simp [results,Tryz.results119,go_sem,z0,Y,z2,z3,W]) rfl HP.out
theorem yF.kept {r:Nat} {w w':World} (h:yF w) (hk:zb r w w') (hr:r≠5):yF w':=by
 intro i v o;exact hk.cell (p:=⟨5,0+i,none⟩) (fun e=>hr e.symm) (h i v o)
theorem zH.line_eq {S:Nat→Prop} {w:World} {x:Ex} {a b c d:Value} {l:Int} (h:zH S w x (.agg #[a,b,c,d,.int .i64 l])):l=(x.line:Int):=by
 cases h <;> rfl
def Zh (r g N F:Nat) (w:World) (res:PR Ex) (p:Nat→Ex→List Tk→Option (PR Ex)) (wr:World):Prop :=
 ∃(e:Ex) (ts:List Tk) (o cap f:Nat) (a:Int) (b:ByteArray) (c:Int) (d0:Option Addr) (d1 d2:Nat) (l:Int),f≤F∧p f e ts=some res∧zq ts∧ts.length≤1099511627776 ∧
  wr.heap[N]?=some (.cells #[.int .i64 a,.string b,.int .i64 c,.slice d0 d1 d2,.int .i64 l] 90 (0,0)) ∧
  zH (fun k=>w.heap.size<k∧k≠N) wr e (.agg #[.int .i64 a,.string b,.int .i64 c,.slice d0 d1 d2,.int .i64 l])∧zj r g o cap ts wr∧zb r w wr∧wr.heap[w.heap.size]?=some zJ
theorem Zd {w:World} {N j:Nat} {c:Array Value} {ty:TypeId} {fr:Nat × Nat} (v:Value) (h:w.heap[N]?=some (.cells c ty fr)):(w.setCell ⟨N,j,none⟩ v).heap[N]?=some (.cells (c.setIfInBounds j v) ty fr):=by
 unfold World.setCell
 simp [Array.getElem?_modify,h]
theorem Z5 {w:World} {N:Nat} {x0 x1 x2 x3 x4:Value} {ty:TypeId} (h:w.heap[N]?=some (.cells #[x0,x1,x2,x3,x4] ty (0,0))) (a b c d e:Value):(set5 w N a b c d e).heap[N]?=some (.cells #[a,b,c,d,e] ty (0,0)) :=
 Zd e (Zd d (Zd c (Zd b (Zd a h))))
theorem zd {w:World} {N:Nat} {x0 x1 x2 x3 x4:Value} {ty:TypeId} (h:w.heap[N]?=some (.cells #[x0,x1,x2,x3,x4] ty (0,0))) :
  w.cell? ⟨N,0,none⟩=some x0∧w.cell? ⟨N,1,none⟩=some x1∧w.cell? ⟨N,2,none⟩=some x2∧w.cell? ⟨N,3,none⟩=some x3∧w.cell? ⟨N,4,none⟩=some x4∧∀j,w.frozen? ⟨N,j,none⟩=false:=by
 refine ⟨?_,?_,?_,?_,?_,fun j=>?_⟩
 ·simp only [World.cell?,h];rfl
 ·simp only [World.cell?,h];rfl
 ·simp only [World.cell?,h];rfl
 ·simp only [World.cell?,h];rfl
 ·simp only [World.cell?,h];rfl
 ·simp only [World.frozen?,h];simp
theorem Zh.leave {r g N o cap:Nat} {w wr W:World} {e:Ex} {ts:List Tk} {a:Int} {b:ByteArray} {c:Int} {d0:Option Addr} {d1 d2:Nat} {l:Int} (hr:r<w.heap.size) (hg:g<w.heap.size) (hNw:w.heap.size<N) (hk:zb r w wr)
  (hb:wr.heap[N]?=some (.cells #[.int .i64 a,.string b,.int .i64 c,.slice d0 d1 d2,.int .i64 l] 90 (0,0))) (hz:wr.heap[w.heap.size]?=some zJ)
  (hx:zH (fun k=>w.heap.size<k∧k≠N) wr e (.agg #[.int .i64 a,.string b,.int .i64 c,.slice d0 d1 d2,.int .i64 l])) (hK:zb r wr W) (hrd:zj r g o cap ts W) :
  W.heap[N]?=some (.cells #[.int .i64 a,.string b,.int .i64 c,.slice d0 d1 d2,.int .i64 l] 90 (0,0))∧W.heap[w.heap.size]?=some zJ ∧
  zr r g w (.ok (e,ts)) (.returned (.agg #[.int .i64 a,.string b,.int .i64 c,.slice d0 d1 d2,.int .i64 l])) (set5 W w.heap.size (.int .i64 a) (.string b) (.int .i64 c) (.slice d0 d1 d2) (.int .i64 l)):=by
 refine ⟨(hK.block _ (Array.getElem?_eq_some_iff.1 hb).1 (by omega)).trans hb,(hK.block _ (Array.getElem?_eq_some_iff.1 hz).1 (by omega)).trans hz,?_⟩
 refine zr.of_set5' (B:=w.heap.size+1) (hk.trans hK) (Nat.le_refl _) hr hg ?_ (Nat.lt_succ_self _) hrd;exact zH.wide (zH.kept hx hK.size fun k hk' hlt=>hK.block k hlt (by omega)) fun k hk'=>hk'.1
theorem Zh.start {r g F:Nat} {w w0 w1:World} {res:PR Ex} {p:Nat→Ex→List Tk→Option (PR Ex)} {x:Ex} {us:List Tk} {o cap:Nat} {a:Int} {b:ByteArray} {c:Int} {d0:Option Addr} {d1 d2:Nat} {l:Int} (hw0:w0=w.alloc zJ) (hr:r<w.heap.size) (hk:zb r w0 w1)
  (hx:zM w0.heap.size w1 x (.agg #[.int .i64 a,.string b,.int .i64 c,.slice d0 d1 d2,.int .i64 l])) (hrd:zj r g o cap us w1) (hp:p F x us=some res) (hE:zq us) (hN:us.length≤1099511627776) :
  Zh r g w1.heap.size F w res p (w1.alloc (.cells #[.int .i64 a,.string b,.int .i64 c,.slice d0 d1 d2,.int .i64 l] 90)):=by
 have h:w0.heap.size=w.heap.size+1:=by rw [hw0];simp
 have e:zb r w w1:=by rw [hw0] at hk;exact ((zb.refl r w).alloc _).trans hk
 obtain ⟨t,ts,rfl⟩:=hE.cons;refine ⟨x,t::ts,o,cap,F,a,b,c,d0,d1,d2,l,Nat.le_refl _,hp,hE,hN,World.alloc_heap_new _ _,?_,hrd.alloc _,e.alloc _,?_⟩
 ·exact zH.wide (zH.kept (zH.low hx) (by simp) fun k hk _=>Below.heap_alloc _ _ _ hk.2) fun k hk=>⟨by omega,by omega⟩
 ·rw [Below.heap_alloc _ _ _ (by have:=hk.size;omega),hk.block _ (by omega) (by omega),hw0]
  exact World.alloc_heap_new _ _
theorem Zh.store {r g N F f:Nat} {w w7:World} {res:PR Ex} {p:Nat→Ex→List Tk→Option (PR Ex)} {x0 x1 x2 x3 x4:Value} {kids:List Ex} {us:List Tk} {o cap:Nat} {ob:Obj} {d0:Option Addr} {d1 d2:Nat} (k:Nat) (s:List UInt8) (n:Int) (line:Nat) (hr:r<w.heap.size) (hg:g<w.heap.size) (hNw:w.heap.size<N)
  (hk:zb r w w7) (hb:w7.heap[N]?=some (.cells #[x0,x1,x2,x3,x4] 90 (0,0))) (hrow:zI (fun k=>w.heap.size<k∧k≠N) (w7.alloc ob) kids (.slice d0 d1 d2)) (hrd:zj r g o cap us w7) (hz:w7.heap[w.heap.size]?=some zJ)
  (hf:f≤F) (hp:p f (.mk k s n kids line) us=some res) (hE:zq us) (hN:us.length≤1099511627776) :
  Zh r g N F w res p (set5 (w7.alloc ob) N (.int .i64 k) (.string (za s)) (.int .i64 n) (.slice d0 d1 d2) (.int .i64 line)):=by
 have e:=(Array.getElem?_eq_some_iff.1 hb).1;obtain ⟨t,ts,rfl⟩:=hE.cons;have h:=hk.size;refine ⟨.mk k s n kids line,t::ts,o,cap,f,k,za s,n,d0,d1,d2,line,hf,hp,hE,hN,Z5 ((Below.heap_alloc _ _ _ e).trans hb) _ _ _ _ _,?_,?_,Zo (hk.alloc _) (by omega) _ _ _ _ _,?_⟩
 ·exact zH.of_row (hrow.kept (w':=set5 (w7.alloc ob) N (.int .i64 k) (.string (za s)) (.int .i64 n) (.slice d0 d1 d2) (.int .i64 line)) (by simp) fun k hk _=>zh _ _ _ _ _ _ _ hk.2) k s n line
 ·exact (hrd.alloc ob).keep (zh _ _ _ _ _ _ _ (by omega)) (zh _ _ _ _ _ _ _ (by omega))
 ·rw [zh _ _ _ _ _ _ _ (by omega),Below.heap_alloc _ _ _ (by omega)];exact hz
theorem Ud (r g:Nat) (least:Nat) (w:World) (res:PR Ex) (hr:r<w.heap.size) (hgw:g<w.heap.size) (hl:6<least)
  (hb:Calls Tryz.prog 119 #[.pointer (some ⟨r,0,none⟩)] (w.alloc zJ) (zr r g (w.alloc zJ) res)) :
  Calls Tryz.prog 98 #[.pointer (some ⟨r,0,none⟩),.int .i64 least] w (zr r g w res):=by
 go_enter Tryz.func98,Tryz.ntmps98
 have K:(6:Int)<(least:Int):=by omega
 go_wp2_with fail
 refine hb.mono ?_;clear hb;rintro e w1 ⟨z,h⟩;have I:zb r w w1:=((zb.refl r w).alloc _).trans z;rcases res with a | ⟨x,ts⟩
 ·obtain rfl:=h
  exact ⟨rfl,I,rfl⟩
 ·obtain ⟨v,o,M,rfl,H,A⟩:=h
  obtain ⟨a,b,c,D,E,G,e,rfl⟩:=H.agg;have Q:(w.alloc zJ).heap.size=w.heap.size+1:=by simp
  have y:w1.heap[w.heap.size]?=some zJ:=(z.block w.heap.size (by omega) (by omega)).trans (World.alloc_heap_new w _)
  have Z:w1.cell? ⟨w.heap.size,0,none⟩=some (.int .i64 0):=by simp only [World.cell?,y];rfl
  have Y:w1.cell? ⟨w.heap.size,1,none⟩=some (.string ⟨#[]⟩):=by simp only [World.cell?,y];rfl
  have W:w1.cell? ⟨w.heap.size,2,none⟩=some (.int .i64 0):=by simp only [World.cell?,y];rfl
  have X:w1.cell? ⟨w.heap.size,3,none⟩=some (.slice none 0 0):=by simp only [World.cell?,y];rfl
  have U:w1.cell? ⟨w.heap.size,4,none⟩=some (.int .i64 0):=by simp only [World.cell?,y];rfl
  have V:∀j,w1.frozen? ⟨w.heap.size,j,none⟩=false:=fun j=>by simp only [World.frozen?,y];simp
  have O:Hid (zr r g w (.ok (x,ts)) (.returned (.agg #[.int .i64 a,.string b,.int .i64 c,.slice D E G,.int .i64 e])) (set5 w1 w.heap.size (.int .i64 a) (.string b) (.int .i64 c) (.slice D E G) (.int .i64 e))) :=
   zr.of_set5' I (Nat.le_refl _) hr hgw H (by omega) A
  obtain ⟨R,L,T,N,J⟩:=zi y (.int .i64 a) (.string b) (.int .i64 c) (.slice D E G) (.int .i64 e);clear z H A I y;go_wp2
  exact bodyPost_ret (v:=.agg #[.int .i64 a,.string b,.int .i64 c,.slice D E G,.int .i64 e]) (by simp [results,Tryz.results98,go_sem,R,L,T,N,J]) rfl O.out
end Go.Proofs.YtmbofhpmockmbaaGreatDoor
