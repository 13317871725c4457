import Derived.Test.YtmbofhpmockmbaaGreatDoorMC24
import Derived.Deep.RegionHeld3
import Derived.RegionDies
namespace Go.Proofs.YtmbofhpmockmbaaGreatDoor
open Go.RowKit Go.Shelf
set_option maxHeartbeats 16000000
set_option maxRecDepth 100000
def xE (t:Tk):PR Ex→PR Ex
 | .error a=>.error a
 | .ok (e,ts)=>.ok (.mk 6 t.s 0 [e] t.line,ts)
theorem XQ (r g o cap:Nat) (t:Tk) (ts:List Tk) (w:World) (res:PR Ex) (h:zc r g o cap (t::ts) w) (hE:zk (t::ts)) (hk:t.k=4) (hs:(t.s==[45]||t.s==[33])=true)
  (hun:∀X o1 cap1,zc r g o1 cap1 ts X→zb r w X→Calls Tryz.prog 119 #[.pointer (some ⟨r,0,none⟩)] X (zl r g X res)) :
  Calls Tryz.prog 119 #[.pointer (some ⟨r,0,none⟩)] w (zl r g w (xE t res)):=by
 have hr:=h.lt.1;have ai:=h.lt.2;have ca:=fun w=>xH t.s w
 simp only [hs] at ca;have h0:=h.alloc zE;have ch:=Zk r g o cap t ts _ h0;obtain ⟨w2,D⟩:∃w2,w2=((w.alloc zE).alloc (zJ t)).alloc (.cells #[.int .i64 4,.string (za t.s),.int .i64 t.n,.int .i64 t.line,.int .i64 t.at0] 142):=⟨_,rfl⟩;have h2:zc r g o cap (t::ts) w2:=by rw [D];exact (h0.alloc _).alloc _
 have k2:zb r w w2:=by rw [D];exact (((zb.refl r w).alloc _).alloc _).alloc _
 have cs:=YN r g o cap t ts w2 h2 (hE.tail (by omega)).ne
 have ad:Hid (w2=((w.alloc zE).alloc (zJ t)).alloc (.cells #[.int .i64 4,.string (za t.s),.int .i64 t.n,.int .i64 t.line,.int .i64 t.at0] 142)):=D;clear h h0
 go_enter Tryz.func119,Tryz.ntmps119
 go_wp2_with fail
 refine ch.mono ?_;clear ch;rintro e X ⟨rfl,rfl⟩;simp only [xT];go_wp2_with (go_at_call 146;refine (ca _).mono ?_;rintro e X ⟨rfl,rfl⟩)
 rw [←ad.out];refine cs.mono ?_;clear cs ca;rintro e w3 ⟨rfl,L⟩
 have n2:w2.heap[w.heap.size+1+1]?=some (.cells #[.int .i64 4,.string (za t.s),.int .i64 t.n,.int .i64 t.line,.int .i64 t.at0] 142 (0,0)):=by
  have Y:=World.alloc_heap_new ((w.alloc zE).alloc (zJ t)) (.cells #[.int .i64 4,.string (za t.s),.int .i64 t.n,.int .i64 t.line,.int .i64 t.at0] 142);rw [←D,show ((w.alloc zE).alloc (zJ t)).heap.size=w.heap.size+1+1 by simp] at Y
  exact Y
 have n0:w2.heap[w.heap.size]?=some zE:=by
  rw [D,Below.heap_alloc _ _ _ (by simp;omega),Below.heap_alloc _ _ _ (by simp)]
  exact World.alloc_heap_new _ _
 have T:zb r w w3:=by rw [L];exact k2.setCell 0 _
 have V:zb r w2 w3:=by rw [L];exact (zb.refl r w2).setCell 0 _
 have h3:zc r g (o+5) (cap-1) ts w3:=by rw [L];exact h2.next
 have m2:=(V.block _ (Array.getElem?_eq_some_iff.1 n2).1 (by omega)).trans n2
 have m0:=(V.block _ (Array.getElem?_eq_some_iff.1 n0).1 (by omega)).trans n0
 have cu:∀W:World,W.heap=w3.heap→W.os=w3.os→W.tape=w3.tape→W.output=w3.output→Calls Tryz.prog 119 #[.pointer (some ⟨r,0,none⟩)] W fun e w'=>zb r w3 w'∧zl r g W res e w':=fun W e1 e2 e3 e4 =>
  (hun W _ _ (h3.keep (by rw [e1]) (by rw [e1])) ⟨e2.trans T.os,e3.trans T.tape,e4.trans T.output,by rw [e1];exact T.size,fun k hk hr=>by rw [e1];exact T.block k hk hr⟩).mono fun e w' h =>
   ⟨⟨h.1.os.trans e2,h.1.tape.trans e3,h.1.output.trans e4,by rw [←e1];exact h.1.size,fun k hk hr=>by rw [←e1];exact h.1.block k (by rw [e1];exact hk) hr⟩,h⟩
 have U:Hid (zb r w w3):=T;have al:w.heap.size+1+1<w3.heap.size:=(Array.getElem?_eq_some_iff.1 m2).1;have c1:w3.cell? ⟨w.heap.size+1+1,1,none⟩=some (.string (za t.s)):=by simp only [World.cell?,m2];rfl
 have c3:w3.cell? ⟨w.heap.size+1+1,3,none⟩=some (.int .i64 t.line):=by simp only [World.cell?,m2];rfl
 clear hun L n2 n0 T V h3 h2 k2 D ad hE;rcases res with a | ⟨x,us⟩
 ·have J:∀W:World,W.heap=w3.heap→W.os=w3.os→W.tape=w3.tape→W.output=w3.output→Calls Tryz.prog 119 #[.pointer (some ⟨r,0,none⟩)] W fun e w'=>e=Zv a∧zb r w w':=fun W e1 e2 e3 e4=>(cu W e1 e2 e3 e4).mono fun e w' h=>⟨h.2.2,U.out.trans h.1⟩
  clear cu;go_wp2_with fail
  go_region_dies
  all_goals (go_wp2_with fail;refine (J _ (by rfl) (by rfl) (by rfl) (by rfl)).mono ?_;rintro e y ⟨rfl,z⟩;exact ⟨rfl,z,rfl⟩)
 ·have J:∀W:World,W.heap=w3.heap→W.os=w3.os→W.tape=w3.tape→W.output=w3.output→Calls Tryz.prog 119 #[.pointer (some ⟨r,0,none⟩)] W fun e w'=>∃(a:Int) (b:ByteArray) (c:Int) (G:Option Addr) (I H:Nat) (l:Int),e=.returned (.agg #[.int .i64 a,.string b,.int .i64 c,.slice G I H,.int .i64 l]) ∧
    w'.cell? ⟨w.heap.size+1+1,1,none⟩=some (.string (za t.s))∧w'.cell? ⟨w.heap.size+1+1,3,none⟩=some (.int .i64 t.line)∧w'.heap[w.heap.size]?=some zE∧Hid (zb r w w')∧w3.heap.size≤w'.heap.size ∧
    Hid (zX w3.heap.size w' x (.agg #[.int .i64 a,.string b,.int .i64 c,.slice G I H,.int .i64 l]))∧Hid (∃o4 A,zc r g o4 A us w'):=fun W e1 e2 e3 e4=>(cu W e1 e2 e3 e4).mono fun e w' h=>by
   obtain ⟨z,-,v,o4,A,rfl,Y,ah⟩:=h;obtain ⟨a,b,c,G,I,H,l,rfl⟩:=Y.agg;exact ⟨a,b,c,G,I,H,l,rfl,z.cell (p:=⟨w.heap.size+1+1,1,none⟩) (by simp;omega) c1,z.cell (p:=⟨w.heap.size+1+1,3,none⟩) (by simp;omega) c3,(z.block _ (by omega) (by omega)).trans m0,U.out.trans z,z.size,(by rw [←e1];exact Y:zX w3.heap.size w' x _),⟨o4,A,ah⟩⟩
  clear cu m0 m2;go_wp2_with fail
  go_region_held3 (fun W=>W.cell? ⟨w.heap.size+1+1,1,none⟩=some (.string (za t.s))∧W.cell? ⟨w.heap.size+1+1,3,none⟩=some (.int .i64 t.line)) (first | go_keep | exact ⟨yB _ _ _ _ _ (by omega) (R _),yB _ _ _ _ _ (by omega) (Q _)⟩) (first | (go_at_call 119;refine (J _ (by rfl) (by rfl) (by rfl) (by rfl)).mono ?_;rintro e y ⟨a,b,c,G,I,H,l,rfl,ae,ab,E,K,M,Z,af⟩;have q0:y.cell? ⟨w.heap.size,0,none⟩=some (.int .i64 0):=(by simp only [World.cell?,E];rfl);have q1:y.cell? ⟨w.heap.size,1,none⟩=some (.string ⟨#[]⟩):=(by simp only [World.cell?,E];rfl);have q2:y.cell? ⟨w.heap.size,2,none⟩=some (.int .i64 0):=(by simp only [World.cell?,E];rfl);have q3:y.cell? ⟨w.heap.size,3,none⟩=some (.slice none 0 0):=(by simp only [World.cell?,E];rfl);have q4:y.cell? ⟨w.heap.size,4,none⟩=some (.int .i64 0):=(by simp only [World.cell?,E];rfl);have qf:∀j,y.frozen? ⟨w.heap.size,j,none⟩=false:=(fun j=>by simp only [World.frozen?,E];simp);have ag:∀ob j,(y.alloc ob).frozen? ⟨w.heap.size,j,none⟩=false:=(fun ob j=>by simp only [World.frozen?,Below.heap_alloc y ob w.heap.size (Array.getElem?_eq_some_iff.1 E).1,E];simp);have ao:=zg q0;have aj:=zg q1;have ak:=zg q2;have am:=zg q3;have an:=zg q4;have R:=zg ae;have Q:=zg ab))
  obtain ⟨o4,A,O⟩:=af.out;have aa:=World.block_lt_of_cell? y _ q0;have p5:(y.alloc (.cells #[.int .i64 a,.string b,.int .i64 c,.slice G I H,.int .i64 l] 90)).heap[w.heap.size]?=some zE:=(Below.heap_alloc _ _ _ aa).trans E;obtain ⟨z0,z1,z2,z3,z4⟩:=zr p5 (.int .i64 6) (.string (za t.s)) (.int .i64 0) (.slice (some ⟨y.heap.size,0,none⟩) 1 1) (.int .i64 t.line)
  change Exit.then _ _ _ _ (set5 (y.alloc (.cells #[.int .i64 a,.string b,.int .i64 c,.slice G I H,.int .i64 l] 90)) w.heap.size (.int .i64 6) (.string (za t.s)) (.int .i64 0) (.slice (some ⟨y.heap.size,0,none⟩) 1 1) (.int .i64 t.line))
  have hp:zl r g w (xE t (.ok (x,us))) (.returned (.agg #[.int .i64 6,.string (za t.s),.int .i64 0,.slice (some ⟨y.heap.size,0,none⟩) 1 1,.int .i64 t.line])) (set5 (y.alloc (.cells #[.int .i64 a,.string b,.int .i64 c,.slice G I H,.int .i64 l] 90)) w.heap.size (.int .i64 6) (.string (za t.s)) (.int .i64 0) (.slice (some ⟨y.heap.size,0,none⟩) 1 1) (.int .i64 t.line)) :=
   zl.of_set5 (B:=w3.heap.size) 6 t.s 0 t.line (K.out.alloc _) (Nat.le_refl _) hr ai (zO.one 90 (c:=[.int .i64 a,.string b,.int .i64 c,.slice G I H,.int .i64 l]) Z.out rfl M) (by omega) (O.keep (Below.heap_alloc _ _ _ (by have:=K.out.size;omega)) (Below.heap_alloc _ _ _ (by have:=K.out.size;omega)))
  generalize set5 (y.alloc (.cells #[.int .i64 a,.string b,.int .i64 c,.slice G I H,.int .i64 l] 90)) w.heap.size (.int .i64 6) (.string (za t.s)) (.int .i64 0) (.slice (some ⟨y.heap.size,0,none⟩) 1 1) (.int .i64 t.line)=W at *;have HP:Hid (zl r g w (xE t (.ok (x,us))) (.returned (.agg #[.int .i64 6,.string (za t.s),.int .i64 0,.slice (some ⟨y.heap.size,0,none⟩) 1 1,.int .i64 t.line])) W):=hp;clear hp p5 aa O q0 q1 q2 q3 q4 qf ag ao aj ak am an R Q ae ab c1 c3 E K M Z af J U al;go_wp2
  exact bodyPost_ret (v:=.agg #[.int .i64 6,.string (za t.s),.int .i64 0,.slice (some ⟨y.heap.size,0,none⟩) 1 1,.int .i64 t.line]) (by simp [results,Tryz.results119,go_sem,z0,z1,z2,z3,z4]) rfl HP.out
end Go.Proofs.YtmbofhpmockmbaaGreatDoor
