import Derived.Test.YtmbofhpmockmbaaGreatDoorMC12
import Derived.Deep.RegionHeld3
import Derived.RegionDies
namespace Go.Proofs.YtmbofhpmockmbaaGreatDoor
open Go.RowKit Go.Shelf
set_option maxHeartbeats 16000000
set_option maxRecDepth 100000
def XU (t:Tk):PR Ex→PR Ex
 | .error a=>.error a
 | .ok (e,ts)=>.ok (.mk 6 t.s 0 [e] t.line,ts)
theorem VO (r g o cap:Nat) (t:Tk) (ts:List Tk) (w:World) (res:PR Ex) (h:zk r g o cap (t::ts) w) (hE:zt (t::ts)) (hk:t.k=4) (hs:(t.s==[45]||t.s==[33])=true)
  (hun:∀V o1 cap1,zk r g o1 cap1 ts V→zc r w V→Calls Tryz.prog 119 #[.pointer (some ⟨r,0,none⟩)] V (zu r g V res)) :
  Calls Tryz.prog 119 #[.pointer (some ⟨r,0,none⟩)] w (zu r g w (XU t res)):=by
 have hr:=h.lt.1;have ah:=h.lt.2;have ca:=fun w=>XR t.s w
 simp only [hs] at ca;have h0:=h.alloc zL;have ch:=ZI r g o cap t ts _ h0;obtain ⟨w2,D⟩:∃w2,w2=((w.alloc zL).alloc (Zf t)).alloc (.cells #[.int .i64 4,.string (za t.s),.int .i64 t.n,.int .i64 t.line,.int .i64 t.at0] 142):=⟨_,rfl⟩;have h2:zk r g o cap (t::ts) w2:=by rw [D];exact (h0.alloc _).alloc _
 have k2:zc r w w2:=by rw [D];exact (((zc.refl r w).alloc _).alloc _).alloc _
 have cs:=xU r g o cap t ts w2 h2 (hE.tail (by omega)).ne
 have Y:Hid (w2=((w.alloc zL).alloc (Zf t)).alloc (.cells #[.int .i64 4,.string (za t.s),.int .i64 t.n,.int .i64 t.line,.int .i64 t.at0] 142)):=D;clear h h0
 go_enter Tryz.func119,Tryz.ntmps119
 go_wp2_with fail
 refine ch.mono ?_;clear ch;rintro e V ⟨rfl,rfl⟩;simp only [YQ];go_wp2_with (go_at_call 146;refine (ca _).mono ?_;rintro e V ⟨rfl,rfl⟩)
 rw [←Y.out];refine cs.mono ?_;clear cs ca;rintro e w3 ⟨rfl,J⟩
 have n2:w2.heap[w.heap.size+1+1]?=some (.cells #[.int .i64 4,.string (za t.s),.int .i64 t.n,.int .i64 t.line,.int .i64 t.at0] 142 (0,0)):=by
  have X:=World.alloc_heap_new ((w.alloc zL).alloc (Zf t)) (.cells #[.int .i64 4,.string (za t.s),.int .i64 t.n,.int .i64 t.line,.int .i64 t.at0] 142);rw [←D,show ((w.alloc zL).alloc (Zf t)).heap.size=w.heap.size+1+1 by simp] at X
  exact X
 have n0:w2.heap[w.heap.size]?=some zL:=by
  rw [D,Below.heap_alloc _ _ _ (by simp;omega),Below.heap_alloc _ _ _ (by simp)]
  exact World.alloc_heap_new _ _
 have T:zc r w w3:=by rw [J];exact k2.setCell 0 _
 have R:zc r w2 w3:=by rw [J];exact (zc.refl r w2).setCell 0 _
 have h3:zk r g (o+5) (cap-1) ts w3:=by rw [J];exact h2.next
 have m2:=(R.block _ (Array.getElem?_eq_some_iff.1 n2).1 (by omega)).trans n2
 have m0:=(R.block _ (Array.getElem?_eq_some_iff.1 n0).1 (by omega)).trans n0
 have cu:∀W:World,W.heap=w3.heap→W.os=w3.os→W.tape=w3.tape→W.output=w3.output→Calls Tryz.prog 119 #[.pointer (some ⟨r,0,none⟩)] W fun e w'=>zc r w3 w'∧zu r g W res e w':=fun W e1 e2 e3 e4 =>
  (hun W _ _ (h3.keep (by rw [e1]) (by rw [e1])) ⟨e2.trans T.os,e3.trans T.tape,e4.trans T.output,by rw [e1];exact T.size,fun k hk hr=>by rw [e1];exact T.block k hk hr⟩).mono fun e w' h =>
   ⟨⟨h.1.os.trans e2,h.1.tape.trans e3,h.1.output.trans e4,by rw [←e1];exact h.1.size,fun k hk hr=>by rw [←e1];exact h.1.block k (by rw [e1];exact hk) hr⟩,h⟩
 have U:Hid (zc r w w3):=T;have ag:w.heap.size+1+1<w3.heap.size:=(Array.getElem?_eq_some_iff.1 m2).1;have c1:w3.cell? ⟨w.heap.size+1+1,1,none⟩=some (.string (za t.s)):=by simp only [World.cell?,m2];rfl
 have c3:w3.cell? ⟨w.heap.size+1+1,3,none⟩=some (.int .i64 t.line):=by simp only [World.cell?,m2];rfl
 clear hun J n2 n0 T R h3 h2 k2 D Y hE;rcases res with a | ⟨x,us⟩
 ·have L:∀W:World,W.heap=w3.heap→W.os=w3.os→W.tape=w3.tape→W.output=w3.output→Calls Tryz.prog 119 #[.pointer (some ⟨r,0,none⟩)] W fun e w'=>e=ZU a∧zc r w w':=fun W e1 e2 e3 e4=>(cu W e1 e2 e3 e4).mono fun e w' h=>⟨h.2.2,U.out.trans h.1⟩
  clear cu;go_wp2_with fail
  go_region_dies
  all_goals (go_wp2_with fail;refine (L _ (by rfl) (by rfl) (by rfl) (by rfl)).mono ?_;rintro e y ⟨rfl,z⟩;exact ⟨rfl,z,rfl⟩)
 ·have L:∀W:World,W.heap=w3.heap→W.os=w3.os→W.tape=w3.tape→W.output=w3.output→Calls Tryz.prog 119 #[.pointer (some ⟨r,0,none⟩)] W fun e w'=>∃(a:Int) (b:ByteArray) (c:Int) (I:Option Addr) (H E:Nat) (l:Int),e=.returned (.agg #[.int .i64 a,.string b,.int .i64 c,.slice I H E,.int .i64 l]) ∧
    w'.cell? ⟨w.heap.size+1+1,1,none⟩=some (.string (za t.s))∧w'.cell? ⟨w.heap.size+1+1,3,none⟩=some (.int .i64 t.line)∧w'.heap[w.heap.size]?=some zL∧Hid (zc r w w')∧w3.heap.size≤w'.heap.size ∧
    Hid (zO w3.heap.size w' x (.agg #[.int .i64 a,.string b,.int .i64 c,.slice I H E,.int .i64 l]))∧Hid (∃o4 A,zk r g o4 A us w'):=fun W e1 e2 e3 e4=>(cu W e1 e2 e3 e4).mono fun e w' h=>by
   obtain ⟨z,-,v,o4,A,rfl,X,ai⟩:=h;obtain ⟨a,b,c,I,H,E,l,rfl⟩:=X.agg;exact ⟨a,b,c,I,H,E,l,rfl,z.cell (p:=⟨w.heap.size+1+1,1,none⟩) (by simp;omega) c1,z.cell (p:=⟨w.heap.size+1+1,3,none⟩) (by simp;omega) c3,(z.block _ (by omega) (by omega)).trans m0,U.out.trans z,z.size,(by rw [←e1];exact X:zO w3.heap.size w' x _),⟨o4,A,ai⟩⟩
  clear cu m0 m2;go_wp2_with fail
  go_region_held3 (fun W=>W.cell? ⟨w.heap.size+1+1,1,none⟩=some (.string (za t.s))∧W.cell? ⟨w.heap.size+1+1,3,none⟩=some (.int .i64 t.line)) (first | go_keep | exact ⟨Yu _ _ _ _ _ (by omega) (N _),Yu _ _ _ _ _ (by omega) (O _)⟩) (first | (go_at_call 119;refine (L _ (by rfl) (by rfl) (by rfl) (by rfl)).mono ?_;rintro e y ⟨a,b,c,I,H,E,l,rfl,ad,ae,G,K,Q,Z,ab⟩;have q0:y.cell? ⟨w.heap.size,0,none⟩=some (.int .i64 0):=(by simp only [World.cell?,G];rfl);have q1:y.cell? ⟨w.heap.size,1,none⟩=some (.string ⟨#[]⟩):=(by simp only [World.cell?,G];rfl);have q2:y.cell? ⟨w.heap.size,2,none⟩=some (.int .i64 0):=(by simp only [World.cell?,G];rfl);have q3:y.cell? ⟨w.heap.size,3,none⟩=some (.slice none 0 0):=(by simp only [World.cell?,G];rfl);have q4:y.cell? ⟨w.heap.size,4,none⟩=some (.int .i64 0):=(by simp only [World.cell?,G];rfl);have qf:∀j,y.frozen? ⟨w.heap.size,j,none⟩=false:=(fun j=>by simp only [World.frozen?,G];simp);have al:∀ob j,(y.alloc ob).frozen? ⟨w.heap.size,j,none⟩=false:=(fun ob j=>by simp only [World.frozen?,Below.heap_alloc y ob w.heap.size (Array.getElem?_eq_some_iff.1 G).1,G];simp);have ak:=zd q0;have am:=zd q1;have aj:=zd q2;have af:=zd q3;have an:=zd q4;have N:=zd ad;have O:=zd ae))
  obtain ⟨o4,A,M⟩:=ab.out;have aa:=World.block_lt_of_cell? y _ q0;have p5:(y.alloc (.cells #[.int .i64 a,.string b,.int .i64 c,.slice I H E,.int .i64 l] 90)).heap[w.heap.size]?=some zL:=(Below.heap_alloc _ _ _ aa).trans G;obtain ⟨z0,z1,z2,z3,z4⟩:=zj p5 (.int .i64 6) (.string (za t.s)) (.int .i64 0) (.slice (some ⟨y.heap.size,0,none⟩) 1 1) (.int .i64 t.line)
  change Exit.then _ _ _ _ (set5 (y.alloc (.cells #[.int .i64 a,.string b,.int .i64 c,.slice I H E,.int .i64 l] 90)) w.heap.size (.int .i64 6) (.string (za t.s)) (.int .i64 0) (.slice (some ⟨y.heap.size,0,none⟩) 1 1) (.int .i64 t.line))
  have hp:zu r g w (XU t (.ok (x,us))) (.returned (.agg #[.int .i64 6,.string (za t.s),.int .i64 0,.slice (some ⟨y.heap.size,0,none⟩) 1 1,.int .i64 t.line])) (set5 (y.alloc (.cells #[.int .i64 a,.string b,.int .i64 c,.slice I H E,.int .i64 l] 90)) w.heap.size (.int .i64 6) (.string (za t.s)) (.int .i64 0) (.slice (some ⟨y.heap.size,0,none⟩) 1 1) (.int .i64 t.line)) :=
   zu.of_set5 (B:=w3.heap.size) 6 t.s 0 t.line (K.out.alloc _) (Nat.le_refl _) hr ah (zK.one 90 (c:=[.int .i64 a,.string b,.int .i64 c,.slice I H E,.int .i64 l]) Z.out rfl Q) (by omega) (M.keep (Below.heap_alloc _ _ _ (by have:=K.out.size;omega)) (Below.heap_alloc _ _ _ (by have:=K.out.size;omega)))
  generalize set5 (y.alloc (.cells #[.int .i64 a,.string b,.int .i64 c,.slice I H E,.int .i64 l] 90)) w.heap.size (.int .i64 6) (.string (za t.s)) (.int .i64 0) (.slice (some ⟨y.heap.size,0,none⟩) 1 1) (.int .i64 t.line)=W at *;have HP:Hid (zu r g w (XU t (.ok (x,us))) (.returned (.agg #[.int .i64 6,.string (za t.s),.int .i64 0,.slice (some ⟨y.heap.size,0,none⟩) 1 1,.int .i64 t.line])) W):=hp;clear hp p5 aa M q0 q1 q2 q3 q4 qf al ak am aj af an N O ad ae c1 c3 G K Q Z ab L U ag;go_wp2
  exact bodyPost_ret (v:=.agg #[.int .i64 6,.string (za t.s),.int .i64 0,.slice (some ⟨y.heap.size,0,none⟩) 1 1,.int .i64 t.line]) (by simp [results,Tryz.results119,go_sem,z0,z1,z2,z3,z4]) rfl HP.out
theorem uD (r g o cap:Nat) (t:Tk) (ts:List Tk) (w:World) (res:PR Ex) (h:zk r g o cap (t::ts) w) (hs:¬(t.k=4∧(t.s=[45]∨t.s=[33])))
  (hwp:∀O,zk r g o cap (t::ts) O→zc r w O→Calls Tryz.prog 147 #[.pointer (some ⟨r,0,none⟩)] O (zu r g O res)) :
  Calls Tryz.prog 119 #[.pointer (some ⟨r,0,none⟩)] w (zu r g w res):=by
 have hr:=h.lt.1;have ab:=h.lt.2;have V:=fun w=>XR t.s w
 have h0:=h.alloc zL;have ch:=ZI r g o cap t ts _ h0;obtain ⟨w2,I⟩:∃w2,w2=((w.alloc zL).alloc (Zf t)).alloc (Zf t):=⟨_,rfl⟩;have h2:zk r g o cap (t::ts) w2:=by rw [I];exact (h0.alloc _).alloc _
 have Z:zc r w w2:=by rw [I];exact (((zc.refl r w).alloc _).alloc _).alloc _
 have U:=hwp w2 h2 Z
 have X:w2.heap[w.heap.size]?=some zL:=by
  rw [I,Below.heap_alloc _ _ _ (by simp;omega),Below.heap_alloc _ _ _ (by simp)]
  exact World.alloc_heap_new _ _
 have N:w.heap.size<w2.heap.size:=(Array.getElem?_eq_some_iff.1 X).1;have Q:Hid (w2.heap[w.heap.size]?=some zL):=X;have M:Hid (zc r w w2):=Z;have K:Hid (w2=((w.alloc zL).alloc (Zf t)).alloc (Zf t)):=I;clear h h0 h2 Z I hwp X
 have T:∀e z,zu r g w2 res e z→(∃a,res=.error a∧e=ZU a∧zc r w z)∨∃(x:Ex) (J:List Tk) (a:Int) (b:ByteArray) (c:Int) (E:Option Addr) (A D:Nat) (l:Int),res=.ok (x,J)∧e=.returned (.agg #[.int .i64 a,.string b,.int .i64 c,.slice E A D,.int .i64 l])∧z.heap[w.heap.size]?=some zL ∧
   zu r g w (.ok (x,J)) (.returned (.agg #[.int .i64 a,.string b,.int .i64 c,.slice E A D,.int .i64 l])) (set5 z w.heap.size (.int .i64 a) (.string b) (.int .i64 c) (.slice E A D) (.int .i64 l)):=by
  rintro e z ⟨L,y⟩;rcases res with a | ⟨x,J⟩
  ·exact .inl ⟨a,rfl,y,M.out.trans L⟩
  ·obtain ⟨v,o3,ae,rfl,hx,ad⟩:=y
   obtain ⟨a,b,c,E,A,D,l,rfl⟩:=hx.agg;exact .inr ⟨x,J,a,b,c,E,A,D,l,rfl,rfl,(L.block _ N (by omega)).trans Q.out,zu.of_set5' (M.out.trans L) (Nat.le_refl _) hr ab hx N ad⟩
 have H:Hid (∀e z,zu r g w2 res e z→(∃a,res=.error a∧e=ZU a∧zc r w z)∨∃(x:Ex) (J:List Tk) (a:Int) (b:ByteArray) (c:Int) (E:Option Addr) (A D:Nat) (l:Int),res=.ok (x,J)∧e=.returned (.agg #[.int .i64 a,.string b,.int .i64 c,.slice E A D,.int .i64 l])∧z.heap[w.heap.size]?=some zL ∧
   zu r g w (.ok (x,J)) (.returned (.agg #[.int .i64 a,.string b,.int .i64 c,.slice E A D,.int .i64 l])) (set5 z w.heap.size (.int .i64 a) (.string b) (.int .i64 c) (.slice E A D) (.int .i64 l))):=T
 clear T Q M N
 go_enter Tryz.func119,Tryz.ntmps119
 go_wp2_with fail
 refine ch.mono ?_;clear ch;rintro e O ⟨rfl,rfl⟩;simp only [YQ]
 by_cases h4:t.k=4
 ·have hb:(t.s==[45]||t.s==[33])=false:=by
   rw [Bool.or_eq_false_iff,beq_eq_false_iff_ne,beq_eq_false_iff_ne];exact ⟨fun e=>hs ⟨h4,.inl e⟩,fun e=>hs ⟨h4,.inr e⟩⟩
  simp only [hb] at V;have aa:(t.k:Int)=4:=by omega
  go_wp2_with (go_at_call 146;refine (V _).mono ?_;rintro e O ⟨rfl,rfl⟩)
  have hO:Zf t=.cells #[.int .i64 4,.string (za t.s),.int .i64 t.n,.int .i64 t.line,.int .i64 t.at0] 142:=by simp only [Zf,h4];rfl
  rw [show ((w.alloc zL).alloc (Zf t)).alloc (.cells #[.int .i64 4,.string (za t.s),.int .i64 t.n,.int .i64 t.line,.int .i64 t.at0] 142)=w2 by rw [←hO];exact K.out.symm]
  refine U.mono ?_;clear U V K;intro e z y;rcases H.out e z y with ⟨a,rfl,rfl,hk⟩ | ⟨x,J,a,b,c,E,A,D,l,rfl,rfl,G,R⟩
  ·exact ⟨rfl,hk,rfl⟩
  ·obtain ⟨z0,z1,z2,z3,Y⟩:=zj G (.int .i64 a) (.string b) (.int .i64 c) (.slice E A D) (.int .i64 l)
   have q0:z.cell? ⟨w.heap.size,0,none⟩=some (.int .i64 0):=by simp only [World.cell?,G];rfl
   have q1:z.cell? ⟨w.heap.size,1,none⟩=some (.string ⟨#[]⟩):=by simp only [World.cell?,G];rfl
   have q2:z.cell? ⟨w.heap.size,2,none⟩=some (.int .i64 0):=by simp only [World.cell?,G];rfl
   have q3:z.cell? ⟨w.heap.size,3,none⟩=some (.slice none 0 0):=by simp only [World.cell?,G];rfl
   have q4:z.cell? ⟨w.heap.size,4,none⟩=some (.int .i64 0):=by simp only [World.cell?,G];rfl
   have qf:∀j,z.frozen? ⟨w.heap.size,j,none⟩=false:=fun j=>by simp only [World.frozen?,G];simp
   have W:Hid (zu r g w (.ok (x,J)) (.returned (.agg #[.int .i64 a,.string b,.int .i64 c,.slice E A D,.int .i64 l])) (set5 z w.heap.size (.int .i64 a) (.string b) (.int .i64 c) (.slice E A D) (.int .i64 l))):=R;clear H y R G;go_wp2
   exact bodyPost_ret (v:=.agg #[.int .i64 a,.string b,.int .i64 c,.slice E A D,.int .i64 l]) (by simp [results,Tryz.results119,go_sem,z0,z1,z2,z3,Y]) rfl W.out
 ·have aa:¬(t.k:Int)=4:=by omega
  go_wp2_with fail
  rw [←K.out];refine U.mono ?_;clear U V K;intro e z y;rcases H.out e z y with ⟨a,rfl,rfl,hk⟩ | ⟨x,J,a,b,c,E,A,D,l,rfl,rfl,G,R⟩
  ·exact ⟨rfl,hk,rfl⟩
  ·obtain ⟨z0,z1,z2,z3,Y⟩:=zj G (.int .i64 a) (.string b) (.int .i64 c) (.slice E A D) (.int .i64 l)
   have q0:z.cell? ⟨w.heap.size,0,none⟩=some (.int .i64 0):=by simp only [World.cell?,G];rfl
   have q1:z.cell? ⟨w.heap.size,1,none⟩=some (.string ⟨#[]⟩):=by simp only [World.cell?,G];rfl
   have q2:z.cell? ⟨w.heap.size,2,none⟩=some (.int .i64 0):=by simp only [World.cell?,G];rfl
   have q3:z.cell? ⟨w.heap.size,3,none⟩=some (.slice none 0 0):=by simp only [World.cell?,G];rfl
   have q4:z.cell? ⟨w.heap.size,4,none⟩=some (.int .i64 0):=by simp only [World.cell?,G];rfl
   have qf:∀j,z.frozen? ⟨w.heap.size,j,none⟩=false:=fun j=>by simp only [World.frozen?,G];simp
   have W:Hid (zu r g w (.ok (x,J)) (.returned (.agg #[.int .i64 a,.string b,.int .i64 c,.slice E A D,.int .i64 l])) (set5 z w.heap.size (.int .i64 a) (.string b) (.int .i64 c) (.slice E A D) (.int .i64 l))):=R;clear H y R G;go_wp2
   exact bodyPost_ret (v:=.agg #[.int .i64 a,.string b,.int .i64 c,.slice E A D,.int .i64 l]) (by simp [results,Tryz.results119,go_sem,z0,z1,z2,z3,Y]) rfl W.out
theorem yL.kept {r:Nat} {w w':World} (h:yL w) (hk:zc r w w') (hr:r≠5):yL w':=by
 intro i v o;exact hk.cell (p:=⟨5,0+i,none⟩) (fun e=>hr e.symm) (h i v o)
theorem zJ.line_eq {S:Nat→Prop} {w:World} {x:Ex} {a b c d:Value} {l:Int} (h:zJ S w x (.agg #[a,b,c,d,.int .i64 l])):l=(x.line:Int):=by
 cases h <;> rfl
def Zk (r g N F:Nat) (w:World) (res:PR Ex) (p:Nat→Ex→List Tk→Option (PR Ex)) (wr:World):Prop :=
 ∃(e:Ex) (ts:List Tk) (o cap f:Nat) (a:Int) (b:ByteArray) (c:Int) (d0:Option Addr) (d1 d2:Nat) (l:Int),f≤F∧p f e ts=some res∧zt ts∧ts.length≤1099511627776 ∧
  wr.heap[N]?=some (.cells #[.int .i64 a,.string b,.int .i64 c,.slice d0 d1 d2,.int .i64 l] 90 (0,0)) ∧
  zJ (fun k=>w.heap.size<k∧k≠N) wr e (.agg #[.int .i64 a,.string b,.int .i64 c,.slice d0 d1 d2,.int .i64 l])∧zk r g o cap ts wr∧zc r w wr∧wr.heap[w.heap.size]?=some zL
theorem Zg {w:World} {N j:Nat} {c:Array Value} {ty:TypeId} {fr:Nat × Nat} (v:Value) (h:w.heap[N]?=some (.cells c ty fr)):(w.setCell ⟨N,j,none⟩ v).heap[N]?=some (.cells (c.setIfInBounds j v) ty fr):=by
 unfold World.setCell
 simp [Array.getElem?_modify,h]
theorem Z8 {w:World} {N:Nat} {x0 x1 x2 x3 x4:Value} {ty:TypeId} (h:w.heap[N]?=some (.cells #[x0,x1,x2,x3,x4] ty (0,0))) (a b c d e:Value):(set5 w N a b c d e).heap[N]?=some (.cells #[a,b,c,d,e] ty (0,0)) :=
 Zg e (Zg d (Zg c (Zg b (Zg a h))))
theorem ze {w:World} {N:Nat} {x0 x1 x2 x3 x4:Value} {ty:TypeId} (h:w.heap[N]?=some (.cells #[x0,x1,x2,x3,x4] ty (0,0))) :
  w.cell? ⟨N,0,none⟩=some x0∧w.cell? ⟨N,1,none⟩=some x1∧w.cell? ⟨N,2,none⟩=some x2∧w.cell? ⟨N,3,none⟩=some x3∧w.cell? ⟨N,4,none⟩=some x4∧∀j,w.frozen? ⟨N,j,none⟩=false:=by
 refine ⟨?_,?_,?_,?_,?_,fun j=>?_⟩
 ·simp only [World.cell?,h];rfl
 ·simp only [World.cell?,h];rfl
 ·simp only [World.cell?,h];rfl
 ·simp only [World.cell?,h];rfl
 ·simp only [World.cell?,h];rfl
 ·simp only [World.frozen?,h];simp
theorem Zk.leave {r g N o cap:Nat} {w wr W:World} {e:Ex} {ts:List Tk} {a:Int} {b:ByteArray} {c:Int} {d0:Option Addr} {d1 d2:Nat} {l:Int} (hr:r<w.heap.size) (hg:g<w.heap.size) (hNw:w.heap.size<N) (hk:zc r w wr)
  (hb:wr.heap[N]?=some (.cells #[.int .i64 a,.string b,.int .i64 c,.slice d0 d1 d2,.int .i64 l] 90 (0,0))) (hz:wr.heap[w.heap.size]?=some zL)
  (hx:zJ (fun k=>w.heap.size<k∧k≠N) wr e (.agg #[.int .i64 a,.string b,.int .i64 c,.slice d0 d1 d2,.int .i64 l])) (hK:zc r wr W) (hrd:zk r g o cap ts W) :
  W.heap[N]?=some (.cells #[.int .i64 a,.string b,.int .i64 c,.slice d0 d1 d2,.int .i64 l] 90 (0,0))∧W.heap[w.heap.size]?=some zL ∧
  zu r g w (.ok (e,ts)) (.returned (.agg #[.int .i64 a,.string b,.int .i64 c,.slice d0 d1 d2,.int .i64 l])) (set5 W w.heap.size (.int .i64 a) (.string b) (.int .i64 c) (.slice d0 d1 d2) (.int .i64 l)):=by
 refine ⟨(hK.block _ (Array.getElem?_eq_some_iff.1 hb).1 (by omega)).trans hb,(hK.block _ (Array.getElem?_eq_some_iff.1 hz).1 (by omega)).trans hz,?_⟩
 refine zu.of_set5' (B:=w.heap.size+1) (hk.trans hK) (Nat.le_refl _) hr hg ?_ (Nat.lt_succ_self _) hrd;exact zJ.wide (zJ.kept hx hK.size fun k hk' hlt=>hK.block k hlt (by omega)) fun k hk'=>hk'.1
theorem Zk.start {r g F:Nat} {w w0 w1:World} {res:PR Ex} {p:Nat→Ex→List Tk→Option (PR Ex)} {x:Ex} {us:List Tk} {o cap:Nat} {a:Int} {b:ByteArray} {c:Int} {d0:Option Addr} {d1 d2:Nat} {l:Int} (hw0:w0=w.alloc zL) (hr:r<w.heap.size) (hk:zc r w0 w1)
  (hx:zO w0.heap.size w1 x (.agg #[.int .i64 a,.string b,.int .i64 c,.slice d0 d1 d2,.int .i64 l])) (hrd:zk r g o cap us w1) (hp:p F x us=some res) (hE:zt us) (hN:us.length≤1099511627776) :
  Zk r g w1.heap.size F w res p (w1.alloc (.cells #[.int .i64 a,.string b,.int .i64 c,.slice d0 d1 d2,.int .i64 l] 90)):=by
 have h:w0.heap.size=w.heap.size+1:=by rw [hw0];simp
 have e:zc r w w1:=by rw [hw0] at hk;exact ((zc.refl r w).alloc _).trans hk
 obtain ⟨t,ts,rfl⟩:=hE.cons;refine ⟨x,t::ts,o,cap,F,a,b,c,d0,d1,d2,l,Nat.le_refl _,hp,hE,hN,World.alloc_heap_new _ _,?_,hrd.alloc _,e.alloc _,?_⟩
 ·exact zJ.wide (zJ.kept (zJ.low hx) (by simp) fun k hk _=>Below.heap_alloc _ _ _ hk.2) fun k hk=>⟨by omega,by omega⟩
 ·rw [Below.heap_alloc _ _ _ (by have:=hk.size;omega),hk.block _ (by omega) (by omega),hw0]
  exact World.alloc_heap_new _ _
theorem Zk.store {r g N F f:Nat} {w w7:World} {res:PR Ex} {p:Nat→Ex→List Tk→Option (PR Ex)} {x0 x1 x2 x3 x4:Value} {kids:List Ex} {us:List Tk} {o cap:Nat} {ob:Obj} {d0:Option Addr} {d1 d2:Nat} (k:Nat) (s:List UInt8) (n:Int) (line:Nat) (hr:r<w.heap.size) (hg:g<w.heap.size) (hNw:w.heap.size<N)
  (hk:zc r w w7) (hb:w7.heap[N]?=some (.cells #[x0,x1,x2,x3,x4] 90 (0,0))) (hrow:zK (fun k=>w.heap.size<k∧k≠N) (w7.alloc ob) kids (.slice d0 d1 d2)) (hrd:zk r g o cap us w7) (hz:w7.heap[w.heap.size]?=some zL)
  (hf:f≤F) (hp:p f (.mk k s n kids line) us=some res) (hE:zt us) (hN:us.length≤1099511627776) :
  Zk r g N F w res p (set5 (w7.alloc ob) N (.int .i64 k) (.string (za s)) (.int .i64 n) (.slice d0 d1 d2) (.int .i64 line)):=by
 have e:=(Array.getElem?_eq_some_iff.1 hb).1;obtain ⟨t,ts,rfl⟩:=hE.cons;have h:=hk.size;refine ⟨.mk k s n kids line,t::ts,o,cap,f,k,za s,n,d0,d1,d2,line,hf,hp,hE,hN,Z8 ((Below.heap_alloc _ _ _ e).trans hb) _ _ _ _ _,?_,?_,Zs (hk.alloc _) (by omega) _ _ _ _ _,?_⟩
 ·exact zJ.of_row (hrow.kept (w':=set5 (w7.alloc ob) N (.int .i64 k) (.string (za s)) (.int .i64 n) (.slice d0 d1 d2) (.int .i64 line)) (by simp) fun k hk _=>zi _ _ _ _ _ _ _ hk.2) k s n line
 ·exact (hrd.alloc ob).keep (zi _ _ _ _ _ _ _ (by omega)) (zi _ _ _ _ _ _ _ (by omega))
 ·rw [zi _ _ _ _ _ _ _ (by omega),Below.heap_alloc _ _ _ (by omega)];exact hz
theorem UA (r g:Nat) (least:Nat) (w:World) (res:PR Ex) (hr:r<w.heap.size) (hgw:g<w.heap.size) (hl:6<least)
  (hb:Calls Tryz.prog 119 #[.pointer (some ⟨r,0,none⟩)] (w.alloc zL) (zu r g (w.alloc zL) res)) :
  Calls Tryz.prog 98 #[.pointer (some ⟨r,0,none⟩),.int .i64 least] w (zu r g w res):=by
 go_enter Tryz.func98,Tryz.ntmps98
 have J:(6:Int)<(least:Int):=by omega
 go_wp2_with fail
 refine hb.mono ?_;clear hb;rintro e w1 ⟨z,h⟩;have I:zc r w w1:=((zc.refl r w).alloc _).trans z;rcases res with a | ⟨x,ts⟩
 ·obtain rfl:=h
  exact ⟨rfl,I,rfl⟩
 ·obtain ⟨v,o,R,rfl,H,A⟩:=h
  obtain ⟨a,b,c,G,D,E,e,rfl⟩:=H.agg;have K:(w.alloc zL).heap.size=w.heap.size+1:=by simp
  have y:w1.heap[w.heap.size]?=some zL:=(z.block w.heap.size (by omega) (by omega)).trans (World.alloc_heap_new w _)
  have Z:w1.cell? ⟨w.heap.size,0,none⟩=some (.int .i64 0):=by simp only [World.cell?,y];rfl
  have X:w1.cell? ⟨w.heap.size,1,none⟩=some (.string ⟨#[]⟩):=by simp only [World.cell?,y];rfl
  have W:w1.cell? ⟨w.heap.size,2,none⟩=some (.int .i64 0):=by simp only [World.cell?,y];rfl
  have Y:w1.cell? ⟨w.heap.size,3,none⟩=some (.slice none 0 0):=by simp only [World.cell?,y];rfl
  have V:w1.cell? ⟨w.heap.size,4,none⟩=some (.int .i64 0):=by simp only [World.cell?,y];rfl
  have U:∀j,w1.frozen? ⟨w.heap.size,j,none⟩=false:=fun j=>by simp only [World.frozen?,y];simp
  have L:Hid (zu r g w (.ok (x,ts)) (.returned (.agg #[.int .i64 a,.string b,.int .i64 c,.slice G D E,.int .i64 e])) (set5 w1 w.heap.size (.int .i64 a) (.string b) (.int .i64 c) (.slice G D E) (.int .i64 e))) :=
   zu.of_set5' I (Nat.le_refl _) hr hgw H (by omega) A
  obtain ⟨Q,T,N,O,M⟩:=zj y (.int .i64 a) (.string b) (.int .i64 c) (.slice G D E) (.int .i64 e);clear z H A I y;go_wp2
  exact bodyPost_ret (v:=.agg #[.int .i64 a,.string b,.int .i64 c,.slice G D E,.int .i64 e]) (by simp [results,Tryz.results98,go_sem,Q,T,N,O,M]) rfl L.out
end Go.Proofs.YtmbofhpmockmbaaGreatDoor
