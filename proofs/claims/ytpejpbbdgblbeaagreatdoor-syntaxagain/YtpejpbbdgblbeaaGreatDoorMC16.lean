import Derived.Test.YtpejpbbdgblbeaaGreatDoorMC15
import Derived.Deep.RegionHeld3
import Derived.RegionDies
namespace Go.Proofs.YtpejpbbdgblbeaaGreatDoor
open Go.RowKit Go.Shelf
set_option maxHeartbeats 16000000
set_option maxRecDepth 100000
def UA (t:Tk):PR Ex→PR Ex
 | .error a=>.error a
 | .ok (e,ts)=>.ok (.mk 6 t.s 0 [e] t.line,ts)
theorem QK (r g o cap:Nat) (t:Tk) (ts:List Tk) (w:World) (res:PR Ex) (h:zg r g o cap (t::ts) w) (hE:zi (t::ts)) (hk:t.k=4) (hs:(t.s==[45]||t.s==[33])=true)
  (hun:∀w1 o1 cap1,zg r g o1 cap1 ts w1→zd r w w1→Calls Tryz.prog 125 #[.pointer (some ⟨r,0,none⟩)] w1 (zJ r g w1 res)) :
  Calls Tryz.prog 125 #[.pointer (some ⟨r,0,none⟩)] w (zJ r g w (UA t res)):=by
 have hr:=h.lt.1;have am:=h.lt.2;have ca:=fun w=>Vh t.s w
 simp only [hs] at ca;have h0:=h.alloc Zz;have ch:=yh r g o cap t ts _ h0;obtain ⟨w2,D⟩:∃w2,w2=((w.alloc Zz).alloc (ZK t)).alloc (.cells #[.int .i64 4,.string (zb t.s),.int .i64 t.n,.int .i64 t.line,.int .i64 t.at0] 66):=⟨_,rfl⟩;have h2:zg r g o cap (t::ts) w2:=by rw [D];exact (h0.alloc _).alloc _
 have k2:zd r w w2:=by rw [D];exact (((zd.refl r w).alloc _).alloc _).alloc _
 have cs:=Vb r g o cap t ts w2 h2 (hE.tail (by omega)).ne
 have af:Hid (w2=((w.alloc Zz).alloc (ZK t)).alloc (.cells #[.int .i64 4,.string (zb t.s),.int .i64 t.n,.int .i64 t.line,.int .i64 t.at0] 66)):=D;clear h h0
 go_enter Tryz.func125,Tryz.ntmps125
 go_wp2_with fail
 refine ch.mono ?_;clear ch;rintro e w1 ⟨rfl,rfl⟩;simp only [uA];go_wp2_with (go_at_call 119;refine (ca _).mono ?_;rintro e w1 ⟨rfl,rfl⟩)
 rw [←af.out];refine cs.mono ?_;clear cs ca;rintro e w3 ⟨rfl,L⟩
 have n2:w2.heap[w.heap.size+1+1]?=some (.cells #[.int .i64 4,.string (zb t.s),.int .i64 t.n,.int .i64 t.line,.int .i64 t.at0] 66 (0,0)):=by
  have hx:=World.alloc_heap_new ((w.alloc Zz).alloc (ZK t)) (.cells #[.int .i64 4,.string (zb t.s),.int .i64 t.n,.int .i64 t.line,.int .i64 t.at0] 66);rw [←D,show ((w.alloc Zz).alloc (ZK t)).heap.size=w.heap.size+1+1 by simp] at hx
  exact hx
 have n0:w2.heap[w.heap.size]?=some Zz:=by
  rw [D,Below.heap_alloc _ _ _ (by simp;omega),Below.heap_alloc _ _ _ (by simp)]
  exact World.alloc_heap_new _ _
 have Y:zd r w w3:=by rw [L];exact k2.setCell 0 _
 have V:zd r w2 w3:=by rw [L];exact (zd.refl r w2).setCell 0 _
 have h3:zg r g (o+5) (cap-1) ts w3:=by rw [L];exact h2.next
 have m2:=(V.block _ (Array.getElem?_eq_some_iff.1 n2).1 (by omega)).trans n2
 have m0:=(V.block _ (Array.getElem?_eq_some_iff.1 n0).1 (by omega)).trans n0
 have cu:∀W:World,W.heap=w3.heap→W.os=w3.os→W.tape=w3.tape→W.output=w3.output→Calls Tryz.prog 125 #[.pointer (some ⟨r,0,none⟩)] W fun e w'=>zd r w3 w'∧zJ r g W res e w':=fun W e1 e2 e3 e4 =>
  (hun W _ _ (h3.keep (by rw [e1]) (by rw [e1])) ⟨e2.trans Y.os,e3.trans Y.tape,e4.trans Y.output,by rw [e1];exact Y.size,fun k hk hr=>by rw [e1];exact Y.block k hk hr⟩).mono fun e w' h =>
   ⟨⟨h.1.os.trans e2,h.1.tape.trans e3,h.1.output.trans e4,by rw [←e1];exact h.1.size,fun k hk hr=>by rw [←e1];exact h.1.block k (by rw [e1];exact hk) hr⟩,h⟩
 have Z:Hid (zd r w w3):=Y;have aj:w.heap.size+1+1<w3.heap.size:=(Array.getElem?_eq_some_iff.1 m2).1;have c1:w3.cell? ⟨w.heap.size+1+1,1,none⟩=some (.string (zb t.s)):=by simp only [World.cell?,m2];rfl
 have c3:w3.cell? ⟨w.heap.size+1+1,3,none⟩=some (.int .i64 t.line):=by simp only [World.cell?,m2];rfl
 clear hun L n2 n0 Y V h3 h2 k2 D af hE;rcases res with a | ⟨x,us⟩
 ·have O:∀W:World,W.heap=w3.heap→W.os=w3.os→W.tape=w3.tape→W.output=w3.output→Calls Tryz.prog 125 #[.pointer (some ⟨r,0,none⟩)] W fun e w'=>e=ZI a∧zd r w w':=fun W e1 e2 e3 e4=>(cu W e1 e2 e3 e4).mono fun e w' h=>⟨h.2.2,Z.out.trans h.1⟩
  clear cu;go_wp2_with fail
  go_region_dies
  all_goals (go_wp2_with fail;refine (O _ (by rfl) (by rfl) (by rfl) (by rfl)).mono ?_;rintro e y ⟨rfl,z⟩;exact ⟨rfl,z,rfl⟩)
 ·have O:∀W:World,W.heap=w3.heap→W.os=w3.os→W.tape=w3.tape→W.output=w3.output→Calls Tryz.prog 125 #[.pointer (some ⟨r,0,none⟩)] W fun e w'=>∃(a:Int) (b:ByteArray) (c:Int) (J:Option Addr) (G I:Nat) (l:Int),e=.returned (.agg #[.int .i64 a,.string b,.int .i64 c,.slice J G I,.int .i64 l]) ∧
    w'.cell? ⟨w.heap.size+1+1,1,none⟩=some (.string (zb t.s))∧w'.cell? ⟨w.heap.size+1+1,3,none⟩=some (.int .i64 t.line)∧w'.heap[w.heap.size]?=some Zz∧Hid (zd r w w')∧w3.heap.size≤w'.heap.size ∧
    Hid (ZL w3.heap.size w' x (.agg #[.int .i64 a,.string b,.int .i64 c,.slice J G I,.int .i64 l]))∧Hid (∃o4 A,zg r g o4 A us w'):=fun W e1 e2 e3 e4=>(cu W e1 e2 e3 e4).mono fun e w' h=>by
   obtain ⟨z,-,v,o4,A,rfl,hx,ap⟩:=h;obtain ⟨a,b,c,J,G,I,l,rfl⟩:=hx.agg;exact ⟨a,b,c,J,G,I,l,rfl,z.cell (p:=⟨w.heap.size+1+1,1,none⟩) (by simp;omega) c1,z.cell (p:=⟨w.heap.size+1+1,3,none⟩) (by simp;omega) c3,(z.block _ (by omega) (by omega)).trans m0,Z.out.trans z,z.size,(by rw [←e1];exact hx:ZL w3.heap.size w' x _),⟨o4,A,ap⟩⟩
  clear cu m0 m2;go_wp2_with fail
  go_region_held3 (fun W=>W.cell? ⟨w.heap.size+1+1,1,none⟩=some (.string (zb t.s))∧W.cell? ⟨w.heap.size+1+1,3,none⟩=some (.int .i64 t.line)) (first | go_keep | exact ⟨Xf _ _ _ _ _ (by omega) (T _),Xf _ _ _ _ _ (by omega) (R _)⟩) (first | (go_at_call 125;refine (O _ (by rfl) (by rfl) (by rfl) (by rfl)).mono ?_;rintro e y ⟨a,b,c,J,G,I,l,rfl,ad,ag,H,N,Q,aa,ae⟩;have q0:y.cell? ⟨w.heap.size,0,none⟩=some (.int .i64 0):=(by simp only [World.cell?,H];rfl);have q1:y.cell? ⟨w.heap.size,1,none⟩=some (.string ⟨#[]⟩):=(by simp only [World.cell?,H];rfl);have q2:y.cell? ⟨w.heap.size,2,none⟩=some (.int .i64 0):=(by simp only [World.cell?,H];rfl);have q3:y.cell? ⟨w.heap.size,3,none⟩=some (.slice none 0 0):=(by simp only [World.cell?,H];rfl);have q4:y.cell? ⟨w.heap.size,4,none⟩=some (.int .i64 0):=(by simp only [World.cell?,H];rfl);have qf:∀j,y.frozen? ⟨w.heap.size,j,none⟩=false:=(fun j=>by simp only [World.frozen?,H];simp);have ao:∀ob j,(y.alloc ob).frozen? ⟨w.heap.size,j,none⟩=false:=(fun ob j=>by simp only [World.frozen?,Below.heap_alloc y ob w.heap.size (Array.getElem?_eq_some_iff.1 H).1,H];simp);have ah:=zl q0;have an:=zl q1;have al:=zl q2;have ak:=zl q3;have ai:=zl q4;have T:=zl ad;have R:=zl ag))
  obtain ⟨o4,A,U⟩:=ae.out;have ab:=World.block_lt_of_cell? y _ q0;have p5:(y.alloc (.cells #[.int .i64 a,.string b,.int .i64 c,.slice J G I,.int .i64 l] 45)).heap[w.heap.size]?=some Zz:=(Below.heap_alloc _ _ _ ab).trans H;obtain ⟨z0,z1,z2,z3,z4⟩:=zX p5 (.int .i64 6) (.string (zb t.s)) (.int .i64 0) (.slice (some ⟨y.heap.size,0,none⟩) 1 1) (.int .i64 t.line)
  change Exit.then _ _ _ _ (set5 (y.alloc (.cells #[.int .i64 a,.string b,.int .i64 c,.slice J G I,.int .i64 l] 45)) w.heap.size (.int .i64 6) (.string (zb t.s)) (.int .i64 0) (.slice (some ⟨y.heap.size,0,none⟩) 1 1) (.int .i64 t.line))
  have hp:zJ r g w (UA t (.ok (x,us))) (.returned (.agg #[.int .i64 6,.string (zb t.s),.int .i64 0,.slice (some ⟨y.heap.size,0,none⟩) 1 1,.int .i64 t.line])) (set5 (y.alloc (.cells #[.int .i64 a,.string b,.int .i64 c,.slice J G I,.int .i64 l] 45)) w.heap.size (.int .i64 6) (.string (zb t.s)) (.int .i64 0) (.slice (some ⟨y.heap.size,0,none⟩) 1 1) (.int .i64 t.line)) :=
   zJ.of_set5 (B:=w3.heap.size) 6 t.s 0 t.line (N.out.alloc _) (Nat.le_refl _) hr am (zK.one 45 (c:=[.int .i64 a,.string b,.int .i64 c,.slice J G I,.int .i64 l]) aa.out rfl Q) (by omega) (U.keep (Below.heap_alloc _ _ _ (by have:=N.out.size;omega)) (Below.heap_alloc _ _ _ (by have:=N.out.size;omega)))
  generalize set5 (y.alloc (.cells #[.int .i64 a,.string b,.int .i64 c,.slice J G I,.int .i64 l] 45)) w.heap.size (.int .i64 6) (.string (zb t.s)) (.int .i64 0) (.slice (some ⟨y.heap.size,0,none⟩) 1 1) (.int .i64 t.line)=W at *;have HP:Hid (zJ r g w (UA t (.ok (x,us))) (.returned (.agg #[.int .i64 6,.string (zb t.s),.int .i64 0,.slice (some ⟨y.heap.size,0,none⟩) 1 1,.int .i64 t.line])) W):=hp;clear hp p5 ab U q0 q1 q2 q3 q4 qf ao ah an al ak ai T R ad ag c1 c3 H N Q aa ae O Z aj;go_wp2
  exact bodyPost_ret (v:=.agg #[.int .i64 6,.string (zb t.s),.int .i64 0,.slice (some ⟨y.heap.size,0,none⟩) 1 1,.int .i64 t.line]) (by simp [results,Tryz.results125,go_sem,z0,z1,z2,z3,z4]) rfl HP.out
theorem zaN (r g o cap:Nat) (t:Tk) (ts:List Tk) (w:World) (res:PR Ex) (h:zg r g o cap (t::ts) w) (hs:¬(t.k=4∧(t.s=[45]∨t.s=[33])))
  (hwp:∀T,zg r g o cap (t::ts) T→zd r w T→Calls Tryz.prog 148 #[.pointer (some ⟨r,0,none⟩)] T (zJ r g T res)) :
  Calls Tryz.prog 125 #[.pointer (some ⟨r,0,none⟩)] w (zJ r g w res):=by
 have hr:=h.lt.1;have ab:=h.lt.2;have Z:=fun w=>Vh t.s w
 have h0:=h.alloc Zz;have ch:=yh r g o cap t ts _ h0;obtain ⟨w2,J⟩:∃w2,w2=((w.alloc Zz).alloc (ZK t)).alloc (ZK t):=⟨_,rfl⟩;have h2:zg r g o cap (t::ts) w2:=by rw [J];exact (h0.alloc _).alloc _
 have k2:zd r w w2:=by rw [J];exact (((zd.refl r w).alloc _).alloc _).alloc _
 have Y:=hwp w2 h2 k2
 have n0:w2.heap[w.heap.size]?=some Zz:=by
  rw [J,Below.heap_alloc _ _ _ (by simp;omega),Below.heap_alloc _ _ _ (by simp)]
  exact World.alloc_heap_new _ _
 have O:w.heap.size<w2.heap.size:=(Array.getElem?_eq_some_iff.1 n0).1;have W:Hid (w2.heap[w.heap.size]?=some Zz):=n0;have Q:Hid (zd r w w2):=k2;have N:Hid (w2=((w.alloc Zz).alloc (ZK t)).alloc (ZK t)):=J;clear h h0 h2 k2 J hwp n0
 have V:∀e z,zJ r g w2 res e z→(∃a,res=.error a∧e=ZI a∧zd r w z)∨∃(x:Ex) (L:List Tk) (a:Int) (b:ByteArray) (c:Int) (G:Option Addr) (A D:Nat) (l:Int),res=.ok (x,L)∧e=.returned (.agg #[.int .i64 a,.string b,.int .i64 c,.slice G A D,.int .i64 l])∧z.heap[w.heap.size]?=some Zz ∧
   zJ r g w (.ok (x,L)) (.returned (.agg #[.int .i64 a,.string b,.int .i64 c,.slice G A D,.int .i64 l])) (set5 z w.heap.size (.int .i64 a) (.string b) (.int .i64 c) (.slice G A D) (.int .i64 l)):=by
  rintro e z ⟨R,y⟩;rcases res with a | ⟨x,L⟩
  ·exact .inl ⟨a,rfl,y,Q.out.trans R⟩
  ·obtain ⟨v,o3,ae,rfl,hx,ad⟩:=y
   obtain ⟨a,b,c,G,A,D,l,rfl⟩:=hx.agg;exact .inr ⟨x,L,a,b,c,G,A,D,l,rfl,rfl,(R.block _ O (by omega)).trans W.out,zJ.of_set5' (Q.out.trans R) (Nat.le_refl _) hr ab hx O ad⟩
 have I:Hid (∀e z,zJ r g w2 res e z→(∃a,res=.error a∧e=ZI a∧zd r w z)∨∃(x:Ex) (L:List Tk) (a:Int) (b:ByteArray) (c:Int) (G:Option Addr) (A D:Nat) (l:Int),res=.ok (x,L)∧e=.returned (.agg #[.int .i64 a,.string b,.int .i64 c,.slice G A D,.int .i64 l])∧z.heap[w.heap.size]?=some Zz ∧
   zJ r g w (.ok (x,L)) (.returned (.agg #[.int .i64 a,.string b,.int .i64 c,.slice G A D,.int .i64 l])) (set5 z w.heap.size (.int .i64 a) (.string b) (.int .i64 c) (.slice G A D) (.int .i64 l))):=V
 clear V W Q O
 go_enter Tryz.func125,Tryz.ntmps125
 go_wp2_with fail
 refine ch.mono ?_;clear ch;rintro e T ⟨rfl,rfl⟩;simp only [uA]
 by_cases h4:t.k=4
 ·have hb:(t.s==[45]||t.s==[33])=false:=by
   rw [Bool.or_eq_false_iff,beq_eq_false_iff_ne,beq_eq_false_iff_ne];exact ⟨fun e=>hs ⟨h4,.inl e⟩,fun e=>hs ⟨h4,.inr e⟩⟩
  simp only [hb] at Z;have aa:(t.k:Int)=4:=by omega
  go_wp2_with (go_at_call 119;refine (Z _).mono ?_;rintro e T ⟨rfl,rfl⟩)
  have hO:ZK t=.cells #[.int .i64 4,.string (zb t.s),.int .i64 t.n,.int .i64 t.line,.int .i64 t.at0] 66:=by simp only [ZK,h4];rfl
  rw [show ((w.alloc Zz).alloc (ZK t)).alloc (.cells #[.int .i64 4,.string (zb t.s),.int .i64 t.n,.int .i64 t.line,.int .i64 t.at0] 66)=w2 by rw [←hO];exact N.out.symm]
  refine Y.mono ?_;clear Y Z N;intro e z y;rcases I.out e z y with ⟨a,rfl,rfl,hk⟩ | ⟨x,L,a,b,c,G,A,D,l,rfl,rfl,H,U⟩
  ·exact ⟨rfl,hk,rfl⟩
  ·obtain ⟨z0,z1,z2,z3,z4⟩:=zX H (.int .i64 a) (.string b) (.int .i64 c) (.slice G A D) (.int .i64 l)
   have q0:z.cell? ⟨w.heap.size,0,none⟩=some (.int .i64 0):=by simp only [World.cell?,H];rfl
   have q1:z.cell? ⟨w.heap.size,1,none⟩=some (.string ⟨#[]⟩):=by simp only [World.cell?,H];rfl
   have q2:z.cell? ⟨w.heap.size,2,none⟩=some (.int .i64 0):=by simp only [World.cell?,H];rfl
   have q3:z.cell? ⟨w.heap.size,3,none⟩=some (.slice none 0 0):=by simp only [World.cell?,H];rfl
   have q4:z.cell? ⟨w.heap.size,4,none⟩=some (.int .i64 0):=by simp only [World.cell?,H];rfl
   have qf:∀j,z.frozen? ⟨w.heap.size,j,none⟩=false:=fun j=>by simp only [World.frozen?,H];simp
   have HP:Hid (zJ r g w (.ok (x,L)) (.returned (.agg #[.int .i64 a,.string b,.int .i64 c,.slice G A D,.int .i64 l])) (set5 z w.heap.size (.int .i64 a) (.string b) (.int .i64 c) (.slice G A D) (.int .i64 l))):=U;clear I y U H;go_wp2
   exact bodyPost_ret (v:=.agg #[.int .i64 a,.string b,.int .i64 c,.slice G A D,.int .i64 l]) (by simp [results,Tryz.results125,go_sem,z0,z1,z2,z3,z4]) rfl HP.out
 ·have aa:¬(t.k:Int)=4:=by omega
  go_wp2_with fail
  rw [←N.out];refine Y.mono ?_;clear Y Z N;intro e z y;rcases I.out e z y with ⟨a,rfl,rfl,hk⟩ | ⟨x,L,a,b,c,G,A,D,l,rfl,rfl,H,U⟩
  ·exact ⟨rfl,hk,rfl⟩
  ·obtain ⟨z0,z1,z2,z3,z4⟩:=zX H (.int .i64 a) (.string b) (.int .i64 c) (.slice G A D) (.int .i64 l)
   have q0:z.cell? ⟨w.heap.size,0,none⟩=some (.int .i64 0):=by simp only [World.cell?,H];rfl
   have q1:z.cell? ⟨w.heap.size,1,none⟩=some (.string ⟨#[]⟩):=by simp only [World.cell?,H];rfl
   have q2:z.cell? ⟨w.heap.size,2,none⟩=some (.int .i64 0):=by simp only [World.cell?,H];rfl
   have q3:z.cell? ⟨w.heap.size,3,none⟩=some (.slice none 0 0):=by simp only [World.cell?,H];rfl
   have q4:z.cell? ⟨w.heap.size,4,none⟩=some (.int .i64 0):=by simp only [World.cell?,H];rfl
   have qf:∀j,z.frozen? ⟨w.heap.size,j,none⟩=false:=fun j=>by simp only [World.frozen?,H];simp
   have HP:Hid (zJ r g w (.ok (x,L)) (.returned (.agg #[.int .i64 a,.string b,.int .i64 c,.slice G A D,.int .i64 l])) (set5 z w.heap.size (.int .i64 a) (.string b) (.int .i64 c) (.slice G A D) (.int .i64 l))):=U;clear I y U H;go_wp2
   exact bodyPost_ret (v:=.agg #[.int .i64 a,.string b,.int .i64 c,.slice G A D,.int .i64 l]) (by simp [results,Tryz.results125,go_sem,z0,z1,z2,z3,z4]) rfl HP.out
theorem ZC.kept {r:Nat} {w w':World} (h:ZC w) (hk:zd r w w') (hr:r≠1):ZC w':=by
 intro i v o;exact hk.cell (p:=⟨1,0+i,none⟩) (fun e=>hr e.symm) (h i v o)
theorem zZ.line_eq {S:Nat→Prop} {w:World} {x:Ex} {a b c d:Value} {l:Int} (h:zZ S w x (.agg #[a,b,c,d,.int .i64 l])):l=(x.line:Int):=by
 cases h <;> rfl
def ZU (r g N F:Nat) (w:World) (res:PR Ex) (p:Nat→Ex→List Tk→Option (PR Ex)) (wr:World):Prop :=
 ∃(e:Ex) (ts:List Tk) (o cap f:Nat) (a:Int) (b:ByteArray) (c:Int) (d0:Option Addr) (d1 d2:Nat) (l:Int),f≤F∧p f e ts=some res∧zi ts∧ts.length≤1099511627776 ∧
  wr.heap[N]?=some (.cells #[.int .i64 a,.string b,.int .i64 c,.slice d0 d1 d2,.int .i64 l] 45 (0,0)) ∧
  zZ (fun k=>w.heap.size<k∧k≠N) wr e (.agg #[.int .i64 a,.string b,.int .i64 c,.slice d0 d1 d2,.int .i64 l])∧zg r g o cap ts wr∧zd r w wr∧wr.heap[w.heap.size]?=some Zz
theorem zq {w:World} {N j:Nat} {c:Array Value} {ty:TypeId} {fr:Nat × Nat} (v:Value) (h:w.heap[N]?=some (.cells c ty fr)):(w.setCell ⟨N,j,none⟩ v).heap[N]?=some (.cells (c.setIfInBounds j v) ty fr):=by
 unfold World.setCell
 simp [Array.getElem?_modify,h]
theorem Yj {w:World} {N:Nat} {x0 x1 x2 x3 x4:Value} {ty:TypeId} (h:w.heap[N]?=some (.cells #[x0,x1,x2,x3,x4] ty (0,0))) (a b c d e:Value):(set5 w N a b c d e).heap[N]?=some (.cells #[a,b,c,d,e] ty (0,0)) :=
 zq e (zq d (zq c (zq b (zq a h))))
theorem zU {w:World} {N:Nat} {x0 x1 x2 x3 x4:Value} {ty:TypeId} (h:w.heap[N]?=some (.cells #[x0,x1,x2,x3,x4] ty (0,0))) :
  w.cell? ⟨N,0,none⟩=some x0∧w.cell? ⟨N,1,none⟩=some x1∧w.cell? ⟨N,2,none⟩=some x2∧w.cell? ⟨N,3,none⟩=some x3∧w.cell? ⟨N,4,none⟩=some x4∧∀j,w.frozen? ⟨N,j,none⟩=false:=by
 refine ⟨?_,?_,?_,?_,?_,fun j=>?_⟩
 ·simp only [World.cell?,h];rfl
 ·simp only [World.cell?,h];rfl
 ·simp only [World.cell?,h];rfl
 ·simp only [World.cell?,h];rfl
 ·simp only [World.cell?,h];rfl
 ·simp only [World.frozen?,h];simp
theorem ZU.leave {r g N o cap:Nat} {w wr W:World} {e:Ex} {ts:List Tk} {a:Int} {b:ByteArray} {c:Int} {d0:Option Addr} {d1 d2:Nat} {l:Int} (hr:r<w.heap.size) (hg:g<w.heap.size) (hNw:w.heap.size<N) (hk:zd r w wr)
  (hb:wr.heap[N]?=some (.cells #[.int .i64 a,.string b,.int .i64 c,.slice d0 d1 d2,.int .i64 l] 45 (0,0))) (hz:wr.heap[w.heap.size]?=some Zz)
  (hx:zZ (fun k=>w.heap.size<k∧k≠N) wr e (.agg #[.int .i64 a,.string b,.int .i64 c,.slice d0 d1 d2,.int .i64 l])) (hK:zd r wr W) (hrd:zg r g o cap ts W) :
  W.heap[N]?=some (.cells #[.int .i64 a,.string b,.int .i64 c,.slice d0 d1 d2,.int .i64 l] 45 (0,0))∧W.heap[w.heap.size]?=some Zz ∧
  zJ r g w (.ok (e,ts)) (.returned (.agg #[.int .i64 a,.string b,.int .i64 c,.slice d0 d1 d2,.int .i64 l])) (set5 W w.heap.size (.int .i64 a) (.string b) (.int .i64 c) (.slice d0 d1 d2) (.int .i64 l)):=by
 refine ⟨(hK.block _ (Array.getElem?_eq_some_iff.1 hb).1 (by omega)).trans hb,(hK.block _ (Array.getElem?_eq_some_iff.1 hz).1 (by omega)).trans hz,?_⟩
 refine zJ.of_set5' (B:=w.heap.size+1) (hk.trans hK) (Nat.le_refl _) hr hg ?_ (Nat.lt_succ_self _) hrd;exact zZ.wide (zZ.kept hx hK.size fun k hk' hlt=>hK.block k hlt (by omega)) fun k hk'=>hk'.1
theorem ZU.start {r g F:Nat} {w w0 w1:World} {res:PR Ex} {p:Nat→Ex→List Tk→Option (PR Ex)} {x:Ex} {us:List Tk} {o cap:Nat} {a:Int} {b:ByteArray} {c:Int} {d0:Option Addr} {d1 d2:Nat} {l:Int} (hw0:w0=w.alloc Zz) (hr:r<w.heap.size) (hk:zd r w0 w1)
  (hx:ZL w0.heap.size w1 x (.agg #[.int .i64 a,.string b,.int .i64 c,.slice d0 d1 d2,.int .i64 l])) (hrd:zg r g o cap us w1) (hp:p F x us=some res) (hE:zi us) (hN:us.length≤1099511627776) :
  ZU r g w1.heap.size F w res p (w1.alloc (.cells #[.int .i64 a,.string b,.int .i64 c,.slice d0 d1 d2,.int .i64 l] 45)):=by
 have y:w0.heap.size=w.heap.size+1:=by rw [hw0];simp
 have h:zd r w w1:=by rw [hw0] at hk;exact ((zd.refl r w).alloc _).trans hk
 obtain ⟨t,ts,rfl⟩:=hE.cons;refine ⟨x,t::ts,o,cap,F,a,b,c,d0,d1,d2,l,Nat.le_refl _,hp,hE,hN,World.alloc_heap_new _ _,?_,hrd.alloc _,h.alloc _,?_⟩
 ·exact zZ.wide (zZ.kept (zZ.low hx) (by simp) fun k hk _=>Below.heap_alloc _ _ _ hk.2) fun k hk=>⟨by omega,by omega⟩
 ·rw [Below.heap_alloc _ _ _ (by have:=hk.size;omega),hk.block _ (by omega) (by omega),hw0]
  exact World.alloc_heap_new _ _
theorem ZU.store {r g N F f:Nat} {w w7:World} {res:PR Ex} {p:Nat→Ex→List Tk→Option (PR Ex)} {x0 x1 x2 x3 x4:Value} {kids:List Ex} {us:List Tk} {o cap:Nat} {ob:Obj} {d0:Option Addr} {d1 d2:Nat} (k:Nat) (s:List UInt8) (n:Int) (line:Nat) (hr:r<w.heap.size) (hg:g<w.heap.size) (hNw:w.heap.size<N)
  (hk:zd r w w7) (hb:w7.heap[N]?=some (.cells #[x0,x1,x2,x3,x4] 45 (0,0))) (hrow:zK (fun k=>w.heap.size<k∧k≠N) (w7.alloc ob) kids (.slice d0 d1 d2)) (hrd:zg r g o cap us w7) (hz:w7.heap[w.heap.size]?=some Zz)
  (hf:f≤F) (hp:p f (.mk k s n kids line) us=some res) (hE:zi us) (hN:us.length≤1099511627776) :
  ZU r g N F w res p (set5 (w7.alloc ob) N (.int .i64 k) (.string (zb s)) (.int .i64 n) (.slice d0 d1 d2) (.int .i64 line)):=by
 have h:=(Array.getElem?_eq_some_iff.1 hb).1;obtain ⟨t,ts,rfl⟩:=hE.cons;have y:=hk.size;refine ⟨.mk k s n kids line,t::ts,o,cap,f,k,zb s,n,d0,d1,d2,line,hf,hp,hE,hN,Yj ((Below.heap_alloc _ _ _ h).trans hb) _ _ _ _ _,?_,?_,ZN (hk.alloc _) (by omega) _ _ _ _ _,?_⟩
 ·exact zZ.of_row (hrow.kept (w':=set5 (w7.alloc ob) N (.int .i64 k) (.string (zb s)) (.int .i64 n) (.slice d0 d1 d2) (.int .i64 line)) (by simp) fun k hk _=>zu _ _ _ _ _ _ _ hk.2) k s n line
 ·exact (hrd.alloc ob).keep (zu _ _ _ _ _ _ _ (by omega)) (zu _ _ _ _ _ _ _ (by omega))
 ·rw [zu _ _ _ _ _ _ _ (by omega),Below.heap_alloc _ _ _ (by omega)];exact hz
theorem zbW (r g:Nat) (least:Nat) (w:World) (res:PR Ex) (hr:r<w.heap.size) (hgw:g<w.heap.size) (hl:6<least)
  (hb:Calls Tryz.prog 125 #[.pointer (some ⟨r,0,none⟩)] (w.alloc Zz) (zJ r g (w.alloc Zz) res)) :
  Calls Tryz.prog 86 #[.pointer (some ⟨r,0,none⟩),.int .i64 least] w (zJ r g w res):=by
 go_enter Tryz.func86,Tryz.ntmps86
 have T:(6:Int)<(least:Int):=by omega
 go_wp2_with fail
 refine hb.mono ?_;clear hb;rintro e w1 ⟨z,h⟩;have J:zd r w w1:=((zd.refl r w).alloc _).trans z;rcases res with a | ⟨x,ts⟩
 ·obtain rfl:=h
  exact ⟨rfl,J,rfl⟩
 ·obtain ⟨v,o,N,rfl,I,A⟩:=h
  obtain ⟨a,b,c,H,G,D,e,rfl⟩:=I.agg;have Q:(w.alloc Zz).heap.size=w.heap.size+1:=by simp
  have y:w1.heap[w.heap.size]?=some Zz:=(z.block w.heap.size (by omega) (by omega)).trans (World.alloc_heap_new w _)
  have Z:w1.cell? ⟨w.heap.size,0,none⟩=some (.int .i64 0):=by simp only [World.cell?,y];rfl
  have Y:w1.cell? ⟨w.heap.size,1,none⟩=some (.string ⟨#[]⟩):=by simp only [World.cell?,y];rfl
  have q2:w1.cell? ⟨w.heap.size,2,none⟩=some (.int .i64 0):=by simp only [World.cell?,y];rfl
  have q3:w1.cell? ⟨w.heap.size,3,none⟩=some (.slice none 0 0):=by simp only [World.cell?,y];rfl
  have q4:w1.cell? ⟨w.heap.size,4,none⟩=some (.int .i64 0):=by simp only [World.cell?,y];rfl
  have qf:∀j,w1.frozen? ⟨w.heap.size,j,none⟩=false:=fun j=>by simp only [World.frozen?,y];simp
  have W:Hid (zJ r g w (.ok (x,ts)) (.returned (.agg #[.int .i64 a,.string b,.int .i64 c,.slice H G D,.int .i64 e])) (set5 w1 w.heap.size (.int .i64 a) (.string b) (.int .i64 c) (.slice H G D) (.int .i64 e))) :=
   zJ.of_set5' J (Nat.le_refl _) hr hgw I (by omega) A
  obtain ⟨L,U,R,V,O⟩:=zX y (.int .i64 a) (.string b) (.int .i64 c) (.slice H G D) (.int .i64 e);clear z I A J y;go_wp2
  exact bodyPost_ret (v:=.agg #[.int .i64 a,.string b,.int .i64 c,.slice H G D,.int .i64 e]) (by simp [results,Tryz.results86,go_sem,L,U,R,V,O]) rfl W.out
theorem QL (r g o cap:Nat) (t:Tk) (ts:List Tk) (w:World) (hi:zm t [116,114,117,101]=true) (h:zg r g o cap (t::ts) w) (hE:zi (t::ts)) (hk1:t.k≠1) (hk2:t.k≠2) (hk3:t.k≠3)  :
  Calls Tryz.prog 180 #[.pointer (some ⟨r,0,none⟩)] w (zJ r g w (.ok (.mk 2 [] 1 [] t.line,ts))):=by
 have hr:=h.lt.1;have L:=h.lt.2;have J:=h.alloc Zz;have ch:=yh r g o cap t ts _ J;obtain ⟨w2,y⟩:∃w2,w2=((w.alloc Zz).alloc (ZK t)).alloc (ZK t):=⟨_,rfl⟩;have h2:zg r g o cap (t::ts) w2:=by rw [y];exact (J.alloc _).alloc _
 have k2:zd r w w2:=by rw [y];exact (((zd.refl r w).alloc _).alloc _).alloc _
 have n0:w2.heap[w.heap.size]?=some Zz:=by
  rw [y,Below.heap_alloc _ _ _ (by simp;omega),Below.heap_alloc _ _ _ (by simp)]
  exact World.alloc_heap_new _ _
 have U:w2.heap[w.heap.size+1+1]?=some (ZK t):=by
  have hx:=World.alloc_heap_new ((w.alloc Zz).alloc (ZK t)) (ZK t);rw [←y,show ((w.alloc Zz).alloc (ZK t)).heap.size=w.heap.size+1+1 by simp] at hx
  exact hx
 have N:w.heap.size+1+1<w2.heap.size:=(Array.getElem?_eq_some_iff.1 U).1;have R:Hid (w2=((w.alloc Zz).alloc (ZK t)).alloc (ZK t)):=y;have V:Hid (zd r w w2):=k2;have W:Hid (w2.heap[w.heap.size]?=some Zz):=n0;have Q:Hid (w2.heap[w.heap.size+1+1]?=some (ZK t)):=U;have Y:¬(t.k:Int)=1:=by omega
 have aa:¬(t.k:Int)=2:=by omega
 have Z:¬(t.k:Int)=3:=by omega
 clear h J y k2 n0 U
 go_enter Tryz.func180,Tryz.ntmps180
 go_wp2_with fail
 refine ch.mono ?_;clear ch;rintro e w1 ⟨rfl,rfl⟩;simp only [uA];have A:Hid (zd r w2 w2):=zd.refl r w2;have D:Hid (zg r g o cap (t::ts) w2):=h2;clear h2;have O:=Zx r g o cap t ts [116,114,117,101] w2 D.out (fun hi=>(hE.tail (zj hi)).ne)
 rw [hi] at O;go_wp2_with fail
 rw [←R.out];refine O.mono ?_;clear O;rintro e w9 ⟨rfl,I,G⟩;have z:zd r w2 w9:=A.out.trans I;have H:zg r g (o+5) (cap-1) ts w9:=by simpa using G
 have T:=(z.block _ (by omega) (by omega)).trans W.out
 have p2:=(z.block _ N (by omega)).trans Q.out
 obtain ⟨c0,c1,c2,c3,c4,-⟩:=zU p2;obtain ⟨q0,q1,q2,q3,q4,qf⟩:=zU T;obtain ⟨z0,z1,z2,z3,z4⟩:=zX T (.int .i64 2) (.string ⟨#[]⟩) (.int .i64 1) (.slice none 0 0) (.int .i64 t.line)
 have HP:Hid (zJ r g w (.ok (.mk 2 [] 1 [] t.line,ts)) (.returned (.agg #[.int .i64 2,.string ⟨#[]⟩,.int .i64 1,.slice none 0 0,.int .i64 t.line])) (set5 w9 w.heap.size (.int .i64 2) (.string ⟨#[]⟩) (.int .i64 1) (.slice none 0 0) (.int .i64 t.line))) :=
  zJ.of_set5 (B:=w.heap.size+1) 2 [] 1 t.line (V.out.trans z) (Nat.le_refl _) hr L (.inl ⟨rfl,rfl⟩) (Nat.lt_succ_self _) H
 clear z H T p2 I G;go_wp2
 exact bodyPost_ret (v:=.agg #[.int .i64 2,.string ⟨#[]⟩,.int .i64 1,.slice none 0 0,.int .i64 t.line]) (by simp [results,Tryz.results180,go_sem,z0,z1,z2,z3,z4]) rfl HP.out
theorem qq (r g o cap:Nat) (t:Tk) (ts:List Tk) (w:World) (hi:zm t [102,97,108,115,101]=true) (h:zg r g o cap (t::ts) w) (hE:zi (t::ts)) (hk1:t.k≠1) (hk2:t.k≠2) (hk3:t.k≠3) (hiT:zm t [116,114,117,101]=false) :
  Calls Tryz.prog 180 #[.pointer (some ⟨r,0,none⟩)] w (zJ r g w (.ok (.mk 2 [] 0 [] t.line,ts))):=by
 have hr:=h.lt.1;have T:=h.lt.2;have Q:=h.alloc Zz;have ch:=yh r g o cap t ts _ Q;obtain ⟨w2,y⟩:∃w2,w2=((w.alloc Zz).alloc (ZK t)).alloc (ZK t):=⟨_,rfl⟩;have h2:zg r g o cap (t::ts) w2:=by rw [y];exact (Q.alloc _).alloc _
 have k2:zd r w w2:=by rw [y];exact (((zd.refl r w).alloc _).alloc _).alloc _
 have n0:w2.heap[w.heap.size]?=some Zz:=by
  rw [y,Below.heap_alloc _ _ _ (by simp;omega),Below.heap_alloc _ _ _ (by simp)]
  exact World.alloc_heap_new _ _
 have Y:w2.heap[w.heap.size+1+1]?=some (ZK t):=by
  have hx:=World.alloc_heap_new ((w.alloc Zz).alloc (ZK t)) (ZK t);rw [←y,show ((w.alloc Zz).alloc (ZK t)).heap.size=w.heap.size+1+1 by simp] at hx
  exact hx
 have U:w.heap.size+1+1<w2.heap.size:=(Array.getElem?_eq_some_iff.1 Y).1;have L:Hid (w2=((w.alloc Zz).alloc (ZK t)).alloc (ZK t)):=y;have Z:Hid (zd r w w2):=k2;have aa:Hid (w2.heap[w.heap.size]?=some Zz):=n0;have V:Hid (w2.heap[w.heap.size+1+1]?=some (ZK t)):=Y;have ab:¬(t.k:Int)=1:=by omega
 have ae:¬(t.k:Int)=2:=by omega
 have ad:¬(t.k:Int)=3:=by omega
 clear h Q y k2 n0 Y
 go_enter Tryz.func180,Tryz.ntmps180
 go_wp2_with fail
 refine ch.mono ?_;clear ch;rintro e w1 ⟨rfl,rfl⟩;simp only [uA];have G:Hid (zd r w2 w2):=zd.refl r w2;have H:Hid (zg r g o cap (t::ts) w2):=h2;clear h2;have I:=Zx r g o cap t ts [116,114,117,101] w2 H.out (fun hi=>(hE.tail (zj hi)).ne)
 rw [hiT] at I;go_wp2_with fail
 rw [←L.out];refine I.mono ?_;clear I;rintro e R ⟨rfl,A,z⟩;have J:Hid (zd r w2 R):=G.out.trans A;have N:Hid (zg r g o cap (t::ts) R):=show zg _ _ _ _ _ _ by simpa using z
 clear A z G H;clear L;have I:=Zx r g o cap t ts [102,97,108,115,101] R N.out (fun hi=>(hE.tail (zj hi)).ne)
 rw [hi] at I;go_wp2_with fail
 refine I.mono ?_;clear I;rintro e w9 ⟨rfl,A,z⟩;have D:zd r w2 w9:=J.out.trans A;have O:zg r g (o+5) (cap-1) ts w9:=by simpa using z
 have W:=(D.block _ (by omega) (by omega)).trans aa.out
 have p2:=(D.block _ U (by omega)).trans V.out
 obtain ⟨c0,c1,c2,c3,c4,-⟩:=zU p2;obtain ⟨q0,q1,q2,q3,q4,qf⟩:=zU W;obtain ⟨z0,z1,z2,z3,z4⟩:=zX W (.int .i64 2) (.string ⟨#[]⟩) (.int .i64 0) (.slice none 0 0) (.int .i64 t.line)
 have HP:Hid (zJ r g w (.ok (.mk 2 [] 0 [] t.line,ts)) (.returned (.agg #[.int .i64 2,.string ⟨#[]⟩,.int .i64 0,.slice none 0 0,.int .i64 t.line])) (set5 w9 w.heap.size (.int .i64 2) (.string ⟨#[]⟩) (.int .i64 0) (.slice none 0 0) (.int .i64 t.line))) :=
  zJ.of_set5 (B:=w.heap.size+1) 2 [] 0 t.line (Z.out.trans D) (Nat.le_refl _) hr T (.inl ⟨rfl,rfl⟩) (Nat.lt_succ_self _) O
 clear D O W p2 A z;go_wp2
 exact bodyPost_ret (v:=.agg #[.int .i64 2,.string ⟨#[]⟩,.int .i64 0,.slice none 0 0,.int .i64 t.line]) (by simp [results,Tryz.results180,go_sem,z0,z1,z2,z3,z4]) rfl HP.out
def xY (t:Tk) (res:PR Ex):PR Ex :=
 if zm t [40]=true then
  match res with
  | .error a=>.error a
  | .ok (e,us)=>if zm (zv us) [41]=true then .ok (e,us.tail) else .error (zv us).at0
 else .error t.at0
theorem vT (r g o cap:Nat) (t:Tk) (ts:List Tk) (w:World) (res:PR Ex) (hEnd:∀l us,res=.ok (l,us)→zi us) (hex:zm t [40]=true→∀w1 o1 cap1,zg r g o1 cap1 ts w1→zd r w w1→Calls Tryz.prog 44 #[.pointer (some ⟨r,0,none⟩)] w1 (zJ r g w1 res)) (h:zg r g o cap (t::ts) w) (hE:zi (t::ts)) (hk1:t.k≠1) (hk2:t.k≠2) (hk3:t.k≠3) (hiT:zm t [116,114,117,101]=false) (hiF:zm t [102,97,108,115,101]=false) (hiN:zm t [110,101,119]=false) (hiB:zm t [91]=false) :
  Calls Tryz.prog 180 #[.pointer (some ⟨r,0,none⟩)] w (zJ r g w (xY t res)):=by
 generalize hres:xY t res=R;have hr:=h.lt.1;have aF:=h.lt.2;have h0:=h.alloc Zz;have ch:=yh r g o cap t ts _ h0;obtain ⟨w2,H⟩:∃w2,w2=((w.alloc Zz).alloc (ZK t)).alloc (ZK t):=⟨_,rfl⟩;have h2:zg r g o cap (t::ts) w2:=by rw [H];exact (h0.alloc _).alloc _
 have k2:zd r w w2:=by rw [H];exact (((zd.refl r w).alloc _).alloc _).alloc _
 have n0:w2.heap[w.heap.size]?=some Zz:=by
  rw [H,Below.heap_alloc _ _ _ (by simp;omega),Below.heap_alloc _ _ _ (by simp)]
  exact World.alloc_heap_new _ _
 have n2:w2.heap[w.heap.size+1+1]?=some (ZK t):=by
  have hx:=World.alloc_heap_new ((w.alloc Zz).alloc (ZK t)) (ZK t);rw [←H,show ((w.alloc Zz).alloc (ZK t)).heap.size=w.heap.size+1+1 by simp] at hx
  exact hx
 have aK:w.heap.size+1+1<w2.heap.size:=(Array.getElem?_eq_some_iff.1 n2).1;have aB:Hid (w2=((w.alloc Zz).alloc (ZK t)).alloc (ZK t)):=H;have V:Hid (zd r w w2):=k2;have aE:Hid (w2.heap[w.heap.size]?=some Zz):=n0;have aL:Hid (w2.heap[w.heap.size+1+1]?=some (ZK t)):=n2;have aG:¬(t.k:Int)=1:=by omega
 have aJ:¬(t.k:Int)=2:=by omega
 have aI:¬(t.k:Int)=3:=by omega
 clear h h0 H k2 n0 n2
 go_enter Tryz.func180,Tryz.ntmps180
 go_wp2_with fail
 refine ch.mono ?_;clear ch;rintro e w1 ⟨rfl,rfl⟩;simp only [uA];have ae:Hid (zd r w2 w2):=zd.refl r w2;have af:Hid (zg r g o cap (t::ts) w2):=h2;clear h2;have G:=Zx r g o cap t ts [116,114,117,101] w2 af.out (fun hi=>(hE.tail (zj hi)).ne)
 rw [hiT] at G;go_wp2_with fail
 rw [←aB.out];refine G.mono ?_;clear G;rintro e w3 ⟨rfl,y,A⟩;have Z:Hid (zd r w2 w3):=ae.out.trans y;have ad:Hid (zg r g o cap (t::ts) w3):=show zg _ _ _ _ _ _ by simpa using A
 clear y A ae af;clear aB;have G:=Zx r g o cap t ts [102,97,108,115,101] w3 ad.out (fun hi=>(hE.tail (zj hi)).ne)
 rw [hiF] at G;go_wp2_with fail
 refine G.mono ?_;clear G;rintro e w4 ⟨rfl,y,A⟩;have aj:Hid (zd r w2 w4):=Z.out.trans y;have ah:Hid (zg r g o cap (t::ts) w4):=show zg _ _ _ _ _ _ by simpa using A
 clear y A Z ad;have G:=Zx r g o cap t ts [110,101,119] w4 ah.out (fun hi=>(hE.tail (zj hi)).ne)
 rw [hiN] at G;go_wp2_with fail
 refine G.mono ?_;clear G;rintro e w5 ⟨rfl,y,A⟩;have am:Hid (zd r w2 w5):=aj.out.trans y;have al:Hid (zg r g o cap (t::ts) w5):=show zg _ _ _ _ _ _ by simpa using A
 clear y A aj ah;have G:=Zx r g o cap t ts [91] w5 al.out (fun hi=>(hE.tail (zj hi)).ne)
 rw [hiB] at G;go_wp2_with fail
 refine G.mono ?_;clear G;rintro e w6 ⟨rfl,y,A⟩;have L:Hid (zd r w2 w6):=am.out.trans y;have ai:Hid (zg r g o cap (t::ts) w6):=show zg _ _ _ _ _ _ by simpa using A
 clear y A am al;have I:=yJ r g o cap t ts [40] w6 ai.out (fun hi=>(hE.tail (zj hi)).ne)
 by_cases hi:zm t [40]=true
 ·simp only [if_pos hi] at I
  go_wp2_with fail
  refine I.mono ?_;clear I;rintro e w9 ⟨y,rfl,aD⟩;have au:zd r w2 w9:=L.out.trans y;have c9:=hex hi w9 _ _ aD (V.out.trans au);have ax:Hid (zd r w2 w9):=au;clear hex y aD au L ai;go_wp2_with fail
  refine c9.mono ?_;clear c9;rintro e J ⟨O,T⟩;have ao:Hid (zd r w2 J):=ax.out.trans O;rcases res with a | ⟨x,us⟩
  ·obtain rfl:=T
   obtain rfl:R=.error a:=by rw [←hres];unfold xY;rw [if_pos hi]
   exact ⟨rfl,V.out.trans ao.out,rfl⟩
  ·obtain ⟨v,o3,ag,rfl,hx,aC⟩:=T
   obtain ⟨a,b,c,W,N,U,l,rfl⟩:=hx.agg;have aw:=hEnd x us rfl;obtain ⟨t3,Y,rfl⟩:=aw.cons;obtain ⟨w11,D⟩:∃w11,w11=J.alloc (.cells #[.int .i64 a,.string b,.int .i64 c,.slice W N U,.int .i64 l] 45):=⟨_,rfl⟩;have az:zg r g o3 ag (t3::Y) w11:=by rw [D];exact aC.alloc _
   have ar:w11.heap[J.heap.size]?=some (.cells #[.int .i64 a,.string b,.int .i64 c,.slice W N U,.int .i64 l] 45 (0,0)):=by rw [D];exact World.alloc_heap_new _ _
   have an:Hid (zd r w2 w11):=show zd _ _ _ by rw [D];exact ao.out.alloc _
   have ab:ZL w9.heap.size w11 x (.agg #[.int .i64 a,.string b,.int .i64 c,.slice W N U,.int .i64 l]):=by rw [D];exact ZL.kept hx (by simp) fun k _ hlt=>Below.heap_alloc _ _ _ hlt
   have aA:Hid (ZL w9.heap.size w11 x (.agg #[.int .i64 a,.string b,.int .i64 c,.slice W N U,.int .i64 l])):=ab;have ay:Hid (w11.heap[J.heap.size]?=some (.cells #[.int .i64 a,.string b,.int .i64 c,.slice W N U,.int .i64 l] 45 (0,0))):=ar;have I:=yJ r g o3 ag t3 Y [41] w11 az (fun hi=>(aw.tail (zj hi)).ne)
   have Q:Hid (w11=J.alloc (.cells #[.int .i64 a,.string b,.int .i64 c,.slice W N U,.int .i64 l] 45)):=D;have aM:=ax.out.size;have aH:=O.size;have ap:J.heap.size<w11.heap.size:=(Array.getElem?_eq_some_iff.1 ar).1;clear D az ar ab hx aC O
   by_cases hm:zm t3 [41]=true
   ·simp only [if_pos hm] at I
    obtain rfl:R=.ok (x,Y):=by rw [←hres];unfold xY;rw [if_pos hi];simp only [zE,hm,if_true,List.tail_cons]
    go_wp2_with fail
    rw [←Q.out];refine I.mono ?_;clear I Q;rintro e av ⟨z,rfl,aa⟩;have aq:=an.out.trans z;have p0:=(aq.block _ (by omega) (by omega)).trans aE.out
    have pB:=(z.block _ ap (by omega)).trans ay.out
    obtain ⟨c0,c1,c2,c3,c4,-⟩:=zU pB;obtain ⟨q0,q1,q2,q3,q4,qf⟩:=zU p0;obtain ⟨z0,z1,z2,z3,z4⟩:=zX p0 (.int .i64 a) (.string b) (.int .i64 c) (.slice W N U) (.int .i64 l);have ak:ZL w9.heap.size av x (.agg #[.int .i64 a,.string b,.int .i64 c,.slice W N U,.int .i64 l]):=ZL.kept aA.out z.size fun k hB hlt=>z.block k hlt (by omega)
    have HP:Hid (zJ r g w (.ok (x,Y)) (.returned (.agg #[.int .i64 a,.string b,.int .i64 c,.slice W N U,.int .i64 l])) (set5 av w.heap.size (.int .i64 a) (.string b) (.int .i64 c) (.slice W N U) (.int .i64 l))) :=
     zJ.of_set5' (V.out.trans aq) (Nat.le_refl _) hr aF ak (by omega) aa
    clear aq z aa p0 pB ak;go_wp2
    exact bodyPost_ret (v:=.agg #[.int .i64 a,.string b,.int .i64 c,.slice W N U,.int .i64 l]) (by simp [results,Tryz.results180,go_sem,z0,z1,z2,z3,z4]) rfl HP.out
   ·simp only [if_neg hm] at I
    obtain rfl:R=.error t3.at0:=by rw [←hres];unfold xY;rw [if_pos hi];simp only [zE,if_neg hm]
    go_wp2_with fail
    rw [←Q.out];refine I.mono ?_;clear I;rintro e av ⟨z,rfl⟩;exact ⟨rfl,V.out.trans (an.out.trans z),rfl⟩
 ·simp only [if_neg hi] at I
  obtain rfl:R=.error t.at0:=by rw [←hres];unfold xY;rw [if_neg hi]
  clear hex hEnd;go_wp2_with fail
  refine I.mono ?_;clear I;rintro e w9 ⟨y,rfl⟩;exact ⟨rfl,V.out.trans (L.out.trans y),rfl⟩
end Go.Proofs.YtpejpbbdgblbeaaGreatDoor
