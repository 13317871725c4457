import Derived.Test.YtmbofhpmockmbaaGreatDoorMC30
import Derived.Test.YtmbofhpmockmbaaGreatDoorSDepth2
import Derived.Test.YtmbofhpmockmbaaGreatDoorXLives
import Derived.Test.YtmbofhpmockmbaaGreatDoorMC6
namespace Go.Proofs.YtmbofhpmockmbaaGreatDoor
open Go.RowKit Go.Shelf
set_option maxHeartbeats 16000000
set_option maxRecDepth 100000
abbrev yf:Ex:=.mk 0 [] 0 [] 0
def zS (l:List UInt8) (x:Ex) (at0 err:Nat):Prop :=
 if (zJ l).2.2≠0 then x=yf∧at0=(zJ l).2.1∧err=(zJ l).2.2 else
 ∃f res,zd f 1 (zJ l).1=some res∧match Zf res with
  | .error a=>x=yf∧at0=a∧err=6
  | .ok y=>if 24<zl y then x=yf∧at0=0∧err=7 else x=y∧at0=0∧err=0
theorem Y1 (l:List UInt8):∀(f line a:Nat),(Zd l f line a).1.length≤f
 | 0,_,_=>by simp [Zd]
 | f+1,line,a=>by
  have e:=Y1 l f (Zo l line a) (zC l a+(zs l a).sz);rw [Zd]
  split
  ·simp
  ·split
   ·simp
   ·split
    ·simp
    ·simp only [List.length_cons];omega
theorem vx (l:List UInt8):(zJ l).1.length≤4097:=by
 unfold zJ
 split
 ·simp
 ·have:=Y1 l (l.length+1) 1 0
  omega
theorem Vz {w:World} {B e sz n:Nat} {v:Value} {xs:List Value} (h:w.ownsRow B e sz v n xs) (hn:1≤n):∃g o,v=.slice (some ⟨g,0,none⟩) n o∧B≤g∧g<w.heap.size∧n≤o∧o≤maxLen∧∀j u,xs[j]?=some u→w.cell? ⟨g,j,none⟩=some u:=by
 obtain ⟨g,o,rfl,G,z,E,H⟩:=vw h hn;refine ⟨g,o,rfl,G,z,E,?_,H⟩;rcases h.2 with ⟨x,_⟩ | ⟨I,y,A,x,_,_,_,D,_⟩
 ·cases x
 ·cases x;exact D
abbrev uw (w:World) (v:Value):World:=(w.alloc (.cells #[v] 147)).alloc (.cells #[.pointer (some ⟨w.heap.size,0,none⟩)] 117)
theorem VA (ts:List Tk) (g cap B0 B2 f:Nat) (w0 w2:World) (res:PR Ex) (hE:zh ts) (hlen:ts.length≤4097) (hp:zd f 1 ts=some res) (hgl:g<w2.heap.size) (hcap:ts.length≤cap) (hmax:cap≤maxLen) (hcell:∀j u,(zO ts)[j]?=some u→w2.cell? ⟨g,j,none⟩=some u)
  (hb:Below w0.heap.size w0 w2) (hl:ZL w0) (he:y3 w0) (hB0:w0.heap.size≤B0) (hB2:w0.heap.size≤B2) (hB2g:B2≠g)
  (b0:w2.heap[B0]?=some (.cells #[.func (.func 74) #[] #[]] 115 (0,0))) (b2:w2.heap[B2]?=some zA) :
  Calls Tryz.prog 95 #[.func (.func 96) #[] #[.pointer (some ⟨B0,0,none⟩),.pointer (some ⟨w2.heap.size+1,0,none⟩),.pointer (some ⟨B2,0,none⟩)]] (uw w2 (.slice (some ⟨g,0,none⟩) ts.length cap)) fun e w' =>
   ∃H,Below (w2.heap.size+1+1) H w'∧y0 w2.heap.size B2 w2 H∧match Zf res with
    | .error a=>e=.returned (.tuple #[.int .i64 a,.int .i64 6])
    | .ok x=>e=.returned (.tuple #[.int .i64 0,.int .i64 0])∧∃(a:Int) (b:ByteArray) (c:Int) (T:Option Addr) (V U:Nat) (l:Int),H.heap[B2]?=some (.cells #[.int .i64 a,.string b,.int .i64 c,.slice T V U,.int .i64 l] 90 (0,0))∧zM (w2.heap.size+1+1) w' x (.agg #[.int .i64 a,.string b,.int .i64 c,.slice T V U,.int .i64 l]):=by
 obtain ⟨N,A,rfl⟩:=hE.cons;have hs:w0.heap.size≤w2.heap.size:=hb.size;have ab:5<w0.heap.size:=World.block_lt_of_cell? w0 _ (hl 0 _ rfl);have Z:4<w0.heap.size:=World.block_lt_of_cell? w0 _ he;have R:B0<w2.heap.size:=(Array.getElem?_eq_some_iff.1 b0).1;have K:B2<w2.heap.size:=(Array.getElem?_eq_some_iff.1 b2).1;obtain ⟨w3,o⟩:∃w3,w3=uw w2 (.slice (some ⟨g,0,none⟩) (N::A).length cap):=⟨_,rfl⟩;have E:w3.heap.size=w2.heap.size+1+1:=by rw [o];simp
 obtain ⟨W,D⟩:∃W,W=VZ w3:=⟨_,rfl⟩;have ae:W.heap.size=w2.heap.size+1+1+1+1:=by rw [D];simp [E]
 have I:∀k,k<w3.heap.size→W.heap[k]?=w3.heap[k]?:=fun k hk=>by rw [D,Below.heap_alloc _ _ _ (by simp;omega),Below.heap_alloc _ _ _ hk]
 have Y:∀k,k<w2.heap.size→w3.heap[k]?=w2.heap[k]?:=fun k hk=>by rw [o,Below.heap_alloc _ _ _ (by simp;omega),Below.heap_alloc _ _ _ hk]
 have z:∀k,k<w2.heap.size→W.heap[k]?=w2.heap[k]?:=fun k hk=>(I k (by omega)).trans (Y k hk)
 have pr:W.heap[w2.heap.size]?=some (.cells #[.slice (some ⟨g,0,none⟩) (N::A).length cap] 147 (0,0)):=by
  rw [I _ (by omega),o,Below.heap_alloc _ _ _ (by simp)];exact World.alloc_heap_new _ _
 have p1:W.heap[w2.heap.size+1]?=some (.cells #[.pointer (some ⟨w2.heap.size,0,none⟩)] 117 (0,0)):=by
  rw [I _ (by omega),o]
  have:=World.alloc_heap_new (w2.alloc (.cells #[.slice (some ⟨g,0,none⟩) (N::A).length cap] 147)) (.cells #[.pointer (some ⟨w2.heap.size,0,none⟩)] 117)
  simpa using this
 have pa:W.heap[w3.heap.size]?=some (.cells #[.int .i64 0] 3 (0,0)):=by
  rw [D,Below.heap_alloc _ _ _ (by simp)];exact World.alloc_heap_new _ _
 have pb:W.heap[w3.heap.size+1]?=some (.cells #[.int .i64 0] 25 (0,0)):=by
  rw [D]
  have:=World.alloc_heap_new (w3.alloc (.cells #[.int .i64 0] 3)) (.cells #[.int .i64 0] 25)
  simpa using this
 have aa:zc w2.heap.size g 0 cap (N::A) W :=
  { cell:=by simp only [World.cell?,pr];rfl
    soft:=by simp only [World.frozen?,pr];simp
    hcap:=hcap
    hmax:=hmax
    other:=by omega
    toks:=fun j u hj=>by rw [Nat.zero_add,World.cell?_of_block (z g hgl)];exact hcell j u hj
    few:=by omega }
 have Q:ZL W:=fun j v hj=>by
  rw [World.cell?_of_block ((z 5 (by omega)).trans (hb.block _ ab))];exact hl j v hj
 have X:=VT w2.heap.size g 0 cap B0 (w2.heap.size+1) B2 f _ _ (N::A) W res aa hE Q (by omega) hp ((z _ R).trans b0) p1 ((z _ K).trans b2) (by omega) (by omega) hB2g (by omega)
 rw [←o];refine (YD 96 #[.pointer (some ⟨B0,0,none⟩),.pointer (some ⟨w2.heap.size+1,0,none⟩),.pointer (some ⟨B2,0,none⟩)] w3 (fun w'=>YZ w2.heap.size B2 W (Zf res) (.returned (.tuple #[])) w') (fun S M w'=>S=6∧∃a:Nat,M=(a:Int)∧Zf res=.error a∧y0 w2.heap.size B2 W w') (fun _=>rfl) ?_).mono ?_
 ·rw [←D]
  refine X.mono fun e w' y=>⟨(y.1.block _ (by omega) (by omega) (by omega)).trans pa,(y.1.block _ (by omega) (by omega) (by omega)).trans pb,?_,?_⟩
  ·unfold y3
   rw [World.cell?_of_block ((y.1.block 4 (by omega) (by omega) (by omega)).trans ((z 4 (by omega)).trans (hb.block _ Z)))];exact he
  ·have L:=y
   unfold YZ at y
   cases G:Zf res with
   | error a=>rw [G] at y;exact .inr ⟨6,a,y.2,rfl,a,rfl,rfl,y.1⟩
   | ok x=>rw [G] at y L;have:=y.2.1;subst this;exact .inl ⟨rfl,L⟩
 ·have O:∀w',y0 w2.heap.size B2 W w'→y0 w2.heap.size B2 w2 w':=fun w' h=>⟨by rw [h.os,D,o];rfl,by rw [h.tape,D,o];rfl,by rw [h.output,D,o];rfl,by have:=h.size;omega,fun k hk hr hb'=>(h.block k (by omega) hr hb').trans (z k hk)⟩
  rintro e w' (⟨H,rfl,y,J,ad⟩ | ⟨S,M,H,rfl,⟨rfl,a,rfl,G,hK⟩,J⟩)
  ·rw [E] at J
   refine ⟨H,J,O _ y.1,?_⟩
   unfold YZ at y
   cases G:Zf res with
   | error a=>rw [G] at y;exact absurd y.2 (by simp [Ze])
   | ok x =>
    rw [G] at y;obtain ⟨-,-,a,b,c,T,V,U,l,h1,h2⟩:=y;exact ⟨rfl,a,b,c,T,V,U,l,h1,zM.mono (zM.kept h2 J.size fun k hk _=>ad k (by omega) (by omega)) (by omega)⟩
  ·rw [E] at J
   refine ⟨H,J,O _ hK,?_⟩;rw [G]
theorem V5 (l:List UInt8) (w:World) (ht:Zh w) (hl:ZL w) (he:y3 w) :
  Calls Tryz.prog 73 #[.string (za l),.func (.func 74) #[] #[],.func (.func 75) #[] #[]] w fun e w' =>
   ∃(x:Ex) (at0 err:Nat) (v:Value),e=.returned (.tuple #[v,.int .i64 at0,.int .i64 err])∧zS l x at0 err∧zM w.heap.size w' x v∧Below w.heap.size w w':=by
 obtain ⟨w1,I⟩:∃w1,w1=(((w.alloc (.cells #[.func (.func 74) #[] #[]] 115)).alloc zA).alloc zA).alloc zA:=⟨_,rfl⟩;have aB:w1.heap.size=w.heap.size+1+1+1+1:=by rw [I];simp
 have ag:Below w.heap.size w w1:=by
  rw [I];exact ((((Below.refl w.heap.size w).alloc (Nat.le_refl _) _).alloc (by simp) _).alloc (by simp <;> omega) _).alloc (by simp <;> omega) _
 have m0:w1.heap[w.heap.size]?=some (.cells #[.func (.func 74) #[] #[]] 115 (0,0)):=by
  rw [I,Below.heap_alloc _ _ _ (by simp <;> omega),Below.heap_alloc _ _ _ (by simp <;> omega),Below.heap_alloc _ _ _ (by simp)];exact World.alloc_heap_new _ _
 have m1:w1.heap[w.heap.size+1]?=some zA:=by
  rw [I,Below.heap_alloc _ _ _ (by simp <;> omega),Below.heap_alloc _ _ _ (by simp)]
  have:=World.alloc_heap_new (w.alloc (.cells #[.func (.func 74) #[] #[]] 115)) zA
  simpa using this
 have m2:w1.heap[w.heap.size+1+1]?=some zA:=by
  rw [I,Below.heap_alloc _ _ _ (by simp)]
  have:=World.alloc_heap_new ((w.alloc (.cells #[.func (.func 74) #[] #[]] 115)).alloc zA) zA
  simpa using this
 have m3:w1.heap[w.heap.size+1+1+1]?=some zA:=by
  rw [I]
  have:=World.alloc_heap_new (((w.alloc (.cells #[.func (.func 74) #[] #[]] 115)).alloc zA).alloc zA) zA
  simpa using this
 have cs:=Va l w1 (ht.below ag (Nat.le_refl _));have au:Hid (w1=(((w.alloc (.cells #[.func (.func 74) #[] #[]] 115)).alloc zA).alloc zA).alloc zA):=I;have aj:Hid (Below w.heap.size w w1):=ag;have HL:Hid (ZL w):=hl;have HE:Hid (y3 w):=he;have HM:Hid (w1.heap[w.heap.size]?=some (.cells #[.func (.func 74) #[] #[]] 115 (0,0))∧w1.heap[w.heap.size+1]?=some zA∧w1.heap[w.heap.size+1+1]?=some zA∧w1.heap[w.heap.size+1+1+1]?=some zA):=⟨m0,m1,m2,m3⟩;clear I ag hl he m0 m1 m2 m3 ht
 go_enter Tryz.func73,Tryz.ntmps73
 go_wp2_with fail
 rw [←au.out];refine cs.mono ?_;clear cs au;rintro e w2 ⟨v,rfl,V,U⟩;have G:∀k,k<w1.heap.size→w2.heap[k]?=w1.heap[k]?:=fun k hk=>U.block k hk
 have p0:=(G _ (by omega)).trans HM.out.1
 have p1:=(G _ (by omega)).trans HM.out.2.1
 have p2:=(G _ (by omega)).trans HM.out.2.2.1
 have p3:=(G _ (by omega)).trans HM.out.2.2.2
 have o:Below w.heap.size w w2:=aj.out.trans (U.mono (by omega))
 have ao:Hid (Below w.heap.size w w2):=o;obtain ⟨a0,a1,a2,a3,a4,af⟩:=zr p1;obtain ⟨c0,c1,c2,c3,c4,-⟩:=zr p2;have az:=U.size
 by_cases herr:(zJ l).2.2≠0
 ·have HI:Hid (zS l yf (zJ l).2.1 (zJ l).2.2):=show zS _ _ _ _ by unfold zS;rw [if_pos herr];exact ⟨rfl,rfl,rfl⟩
  have aa:¬((zJ l).2.2:Int)=0:=by omega
  generalize (zJ l).2.1=A at *;generalize (zJ l).2.2=E at *;have h1:((E:Int)==0)=false:=by rw [beq_eq_false_iff_ne];exact aa
  have h2:((E:Int) != 0)=true:=by simp [bne,h1]
  have h3:decide ((E:Int)=0)=false:=by rw [decide_eq_false_iff_not];exact aa
  have h4:(E==0)=false:=by rw [beq_eq_false_iff_ne];exact herr
  have h5:decide (E=0)=false:=by rw [decide_eq_false_iff_not];exact herr
  have h6:(E != 0)=true:=by simp [bne,h4]
  obtain ⟨z0,z1,z2,z3,z4⟩:=zo p1 (.int .i64 0) (.string ⟨#[]⟩) (.int .i64 0) (.slice none 0 0) (.int .i64 0)
  have ar:Below w.heap.size w (set5 w2 (w.heap.size+1) (.int .i64 0) (.string ⟨#[]⟩) (.int .i64 0) (.slice none 0 0) (.int .i64 0)) :=
   ((((o.setCell (p:=⟨w.heap.size+1,0,none⟩) (by simp) _).setCell (p:=⟨w.heap.size+1,1,none⟩) (by simp) _).setCell (p:=⟨w.heap.size+1,2,none⟩) (by simp) _).setCell (p:=⟨w.heap.size+1,3,none⟩) (by simp) _).setCell (p:=⟨w.heap.size+1,4,none⟩) (by simp) _
  have M:Hid (Below w.heap.size w (set5 w2 (w.heap.size+1) (.int .i64 0) (.string ⟨#[]⟩) (.int .i64 0) (.slice none 0 0) (.int .i64 0))):=ar;clear ar o U V G p0 p1 p2 p3 HM ao HL HE aj;go_wp2
  refine bodyPost_ret (v:=.tuple #[.agg #[.int .i64 0,.string ⟨#[]⟩,.int .i64 0,.slice none 0 0,.int .i64 0],.int .i64 A,.int .i64 E]) (by simp [results,Tryz.results73,go_sem,z0,z1,z2,z3,z4]) rfl ⟨yf,A,E,_,rfl,HI.out,.leaf 0 [] 0 0,M.out⟩
 ·have Y:(zJ l).2.2=0:=by simpa using herr
  have hE:=Xw l Y;obtain ⟨t0,aD,al⟩:=hE.cons;obtain ⟨g,K,rfl,hg,av,an,ap,X⟩:∃g K,v=.slice (some ⟨g,0,none⟩) (zJ l).1.length K∧w1.heap.size≤g∧g<w2.heap.size∧(zJ l).1.length≤K∧K≤maxLen∧∀j u,(zO (zJ l).1)[j]?=some u→w2.cell? ⟨g,j,none⟩=some u:=Vz V (by rw [al];simp)
  have aq:=vx l;obtain ⟨f,res,hf,-⟩:=(yY (zJ l).1.length (zJ l).1 (Nat.le_refl _)).1 1;have hp:zd f 1 (zJ l).1=some res:=hf 0;have ca:=VA (zJ l).1 g K w.heap.size (w.heap.size+1+1+1) f w w2 res hE aq hp av an ap X o HL.out HE.out (Nat.le_refl _) (by omega) (by omega) p0 p3
  have aC:∀(fn:Fn) (first K:Array Value) (w:World),(Instr.makeFunc fn first K).run Tryz.prog w=.ok (.func fn first K) w:=fun _ _ _ _=>rfl
  have ad:∀x us,res=.ok (x,us)→zl x≤4097:=fun x us h=>by
   subst h
   have:=(xU f).1 _ _ _ _ hp
   omega
  have HI:Hid (∀x at0 err,(match Zf res with | .error a=>x=yf∧at0=a∧err=6 | .ok y=>if 24<zl y then x=yf∧at0=0∧err=7 else x=y∧at0=0∧err=0)→zS l x at0 err):=fun x at0 err h=>by
   unfold zS
   rw [if_neg herr];exact ⟨f,res,hp,h⟩
  have Q:Hid (∀k,k≤w.heap.size+1+1→∀Z z,Below (w2.heap.size+1+1) Z z→y0 w2.heap.size (w.heap.size+1+1+1) w2 Z→z.heap[k]?=w2.heap[k]?):=fun k hk Z z h5 h6 =>
   (h5.block k (by omega)).trans (h6.block k (by omega) (by omega) (by omega))
  have ai:Hid (∀Z z,Below (w2.heap.size+1+1) Z z→y0 w2.heap.size (w.heap.size+1+1+1) w2 Z→Below w.heap.size w z):=fun Z z h5 h6 =>
   ⟨h5.os.trans (h6.os.trans o.os),h5.tape.trans (h6.tape.trans o.tape),h5.output.trans (h6.output.trans o.output),by have:=h5.size;have:=h6.size;have:=o.size;omega,fun k hk=>(h5.block k (by omega)).trans ((h6.block k (by omega) (by omega) (by omega)).trans (o.block k hk))⟩
  have ab:Hid (w2.heap[w.heap.size+1]?=some zA∧w2.heap[w.heap.size+1+1]?=some zA):=⟨p1,p2⟩;rw [Y];generalize (zJ l).2.1=A at *;clear o U V G p0 p1 p2 p3 HM ao HL HE aj X hp hf hE al a0 a1 a2 a3 a4 af c0 c1 c2 c3 c4;go_wp2_with fail
  refine ca.mono ?_;clear ca;rintro e z ⟨Z,L,T,H⟩;have q1:=(Q.out (w.heap.size+1) (by omega) Z z L T).trans ab.out.1
  have q2:=(Q.out (w.heap.size+1+1) (by omega) Z z L T).trans ab.out.2
  have R:=ai.out Z z L T;obtain ⟨a0,a1,a2,a3,a4,af⟩:=zr q1;obtain ⟨c0,c1,c2,c3,c4,-⟩:=zr q2
  have O:∀W,Below w.heap.size w W→∀v0 v1 v2 v3 v4,Below w.heap.size w (set5 W (w.heap.size+1) v0 v1 v2 v3 v4):=fun W hW v0 v1 v2 v3 v4 =>
   ((((hW.setCell (p:=⟨w.heap.size+1,0,none⟩) (by simp) _).setCell (p:=⟨w.heap.size+1,1,none⟩) (by simp) _).setCell (p:=⟨w.heap.size+1,2,none⟩) (by simp) _).setCell (p:=⟨w.heap.size+1,3,none⟩) (by simp) _).setCell (p:=⟨w.heap.size+1,4,none⟩) (by simp) _
  cases hR:Zf res with
  | error a =>
   rw [hR] at H;obtain rfl:=H;have S:Hid (zS l yf a 6):=HI.out yf a 6 (by rw [hR];exact ⟨rfl,rfl,rfl⟩)
   obtain ⟨z0,z1,z2,z3,z4⟩:=zo q1 (.int .i64 0) (.string ⟨#[]⟩) (.int .i64 0) (.slice none 0 0) (.int .i64 0);have M:Hid (Below w.heap.size w (set5 z (w.heap.size+1) (.int .i64 0) (.string ⟨#[]⟩) (.int .i64 0) (.slice none 0 0) (.int .i64 0))):=O z R _ _ _ _ _;clear O R q1 q2 L T HI Q ai ab;go_wp2
   refine bodyPost_ret (v:=.tuple #[.agg #[.int .i64 0,.string ⟨#[]⟩,.int .i64 0,.slice none 0 0,.int .i64 0],.int .i64 a,.int .i64 6]) (by simp [results,Tryz.results73,go_sem,z0,z1,z2,z3,z4]) rfl ⟨yf,a,6,_,rfl,S.out,.leaf 0 [] 0 0,M.out⟩
  | ok x =>
   rw [hR] at H;obtain ⟨rfl,xa,xb,xc,x0,x1,x2,xl,am,hx⟩:=H
   have ay:zl x≤4097:=by
    rcases res with a | ⟨y,us⟩
    ·cases hR
    ·unfold Zf at hR
     simp only at hR
     split at hR
     ·cases hR;exact ad _ us rfl
     ·cases hR
   have aA:=L.size;have ax:=T.size;have qx:=(L.block (w.heap.size+1+1+1) (by omega)).trans am
   obtain ⟨e0,e1,e2,e3,e4,-⟩:=zr qx;have cd:=YL (fun k=>w2.heap.size+1+1≤k) (zl x) z x _ z (Nat.le_refl _) (by omega) (Below.refl _ _) hx
   have HX:Hid (zM (w2.heap.size+1+1) z x (.agg #[.int .i64 xa,.string xb,.int .i64 xc,.slice x0 x1 x2,.int .i64 xl])):=hx;have HQ:Hid (z.heap[w.heap.size+1]?=some zA∧z.heap[w.heap.size+1+1]?=some zA∧z.heap[w.heap.size+1+1+1]?=some (.cells #[.int .i64 xa,.string xb,.int .i64 xc,.slice x0 x1 x2,.int .i64 xl] 90 (0,0))):=⟨q1,q2,qx⟩;have ae:Hid (Below w.heap.size w z):=R;have HS:Hid (∀W,Below w.heap.size w W→∀v0 v1 v2 v3 v4,Below w.heap.size w (set5 W (w.heap.size+1) v0 v1 v2 v3 v4)):=O;have S:Hid (∀y at0 err,(if 24<zl x then y=yf∧at0=0∧err=7 else y=x∧at0=0∧err=0)→zS l y at0 err):=fun y at0 err h=>HI.out y at0 err (by rw [hR];exact h)
   generalize hD:zl x=D at *;clear O R q1 q2 qx L T HI Q ai ab hx am ad;go_wp2_with fail
   refine cd.mono ?_;clear cd a0 a1 a2 a3 a4 af c0 c1 c2 c3 c4 e0 e1 e2 e3 e4;rintro e w7 ⟨rfl,J⟩;have r1:=(J.block _ (by omega)).trans HQ.out.1
   have r2:=(J.block _ (by omega)).trans HQ.out.2.1
   have r3:=(J.block _ (by omega)).trans HQ.out.2.2
   have N:Below w.heap.size w w7:=ae.out.trans (J.mono (by omega))
   have ah:zM (w2.heap.size+1+1) w7 x (.agg #[.int .i64 xa,.string xb,.int .i64 xc,.slice x0 x1 x2,.int .i64 xl]):=zM.kept HX.out J.size fun k _ hlt=>J.block k hlt
   obtain ⟨a0,a1,a2,a3,a4,af⟩:=zr r1
   by_cases hdeep:24<D
   ·obtain ⟨c0,c1,c2,c3,c4,-⟩:=zr r2
    obtain ⟨z0,z1,z2,z3,z4⟩:=zo r1 (.int .i64 0) (.string ⟨#[]⟩) (.int .i64 0) (.slice none 0 0) (.int .i64 0);have ak:Hid (zS l yf 0 7):=S.out yf 0 7 (by rw [if_pos hdeep];exact ⟨rfl,rfl,rfl⟩)
    have M:Hid (Below w.heap.size w (set5 w7 (w.heap.size+1) (.int .i64 0) (.string ⟨#[]⟩) (.int .i64 0) (.slice none 0 0) (.int .i64 0))):=HS.out w7 N _ _ _ _ _;have h1:(24:Int)<(D:Int):=by omega
    clear N ah r1 r2 r3 J HQ HX ae HS S;go_wp2
    refine bodyPost_ret (v:=.tuple #[.agg #[.int .i64 0,.string ⟨#[]⟩,.int .i64 0,.slice none 0 0,.int .i64 0],.int .i64 0,.int .i64 7]) (by simp [results,Tryz.results73,go_sem,z0,z1,z2,z3,z4]) rfl ⟨yf,0,7,_,rfl,ak.out,.leaf 0 [] 0 0,M.out⟩
   ·obtain ⟨c0,c1,c2,c3,c4,-⟩:=zr r3
    obtain ⟨z0,z1,z2,z3,z4⟩:=zo r1 (.int .i64 xa) (.string xb) (.int .i64 xc) (.slice x0 x1 x2) (.int .i64 xl);have ak:Hid (zS l x 0 0):=S.out x 0 0 (by rw [if_neg hdeep];exact ⟨rfl,rfl,rfl⟩)
    have M:Hid (Below w.heap.size w (set5 w7 (w.heap.size+1) (.int .i64 xa) (.string xb) (.int .i64 xc) (.slice x0 x1 x2) (.int .i64 xl))):=HS.out w7 N _ _ _ _ _;have aw:Hid (zM w.heap.size (set5 w7 (w.heap.size+1) (.int .i64 xa) (.string xb) (.int .i64 xc) (.slice x0 x1 x2) (.int .i64 xl)) x (.agg #[.int .i64 xa,.string xb,.int .i64 xc,.slice x0 x1 x2,.int .i64 xl])):=zM.mono (zM.kept ah (w':=set5 w7 (w.heap.size+1) (.int .i64 xa) (.string xb) (.int .i64 xc) (.slice x0 x1 x2) (.int .i64 xl)) (by simp) fun k hk _=>zg _ _ _ _ _ _ _ (by omega)) (by omega)
    have h1:¬(24:Int)<(D:Int):=by omega
    clear N ah r1 r2 r3 J HQ HX ae HS S;go_wp2
    refine bodyPost_ret (v:=.tuple #[.agg #[.int .i64 xa,.string xb,.int .i64 xc,.slice x0 x1 x2,.int .i64 xl],.int .i64 0,.int .i64 0]) (by simp [results,Tryz.results73,go_sem,z0,z1,z2,z3,z4]) rfl ⟨x,0,0,_,rfl,ak.out,aw.out,M.out⟩
end Go.Proofs.YtmbofhpmockmbaaGreatDoor
