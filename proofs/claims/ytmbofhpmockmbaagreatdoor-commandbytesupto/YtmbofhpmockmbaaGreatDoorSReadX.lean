import Derived.Test.YtmbofhpmockmbaaGreatDoorMC31
import Derived.Test.YtmbofhpmockmbaaGreatDoorSDepth2
import Derived.Test.YtmbofhpmockmbaaGreatDoorMC33
import Derived.Test.YtmbofhpmockmbaaGreatDoorMC7
namespace Go.Proofs.YtmbofhpmockmbaaGreatDoor
open Go.RowKit Go.Shelf
set_option maxHeartbeats 16000000
set_option maxRecDepth 100000
abbrev yF:Ex:=.mk 0 [] 0 [] 0
def zY (l:List UInt8) (x:Ex) (at0 err:Nat):Prop :=
 if (zL l).2.2≠0 then x=yF∧at0=(zL l).2.1∧err=(zL l).2.2 else
 ∃f res,zd f 1 (zL l).1=some res∧match Zo res with
  | .error a=>x=yF∧at0=a∧err=6
  | .ok y=>if 24<zn y then x=yF∧at0=0∧err=7 else x=y∧at0=0∧err=0
theorem xW (l:List UInt8):∀(f line a:Nat),(Zm l f line a).1.length≤f
 | 0,_,_=>by simp [Zm]
 | f+1,line,a=>by
  have e:=xW l f (ZC l line a) (zF l a+(zv l a).sz);rw [Zm]
  split
  ·simp
  ·split
   ·simp
   ·split
    ·simp
    ·simp only [List.length_cons];omega
theorem VW (l:List UInt8):(zL l).1.length≤4097:=by
 unfold zL
 split
 ·simp
 ·have:=xW l (l.length+1) 1 0
  omega
theorem Um {w:World} {B e sz n:Nat} {v:Value} {xs:List Value} (h:w.ownsRow B e sz v n xs) (hn:1≤n):∃g o,v=.slice (some ⟨g,0,none⟩) n o∧B≤g∧g<w.heap.size∧n≤o∧o≤maxLen∧∀j u,xs[j]?=some u→w.cell? ⟨g,j,none⟩=some u:=by
 obtain ⟨g,o,rfl,I,E,H,A⟩:=VR h hn;refine ⟨g,o,rfl,I,E,H,?_,A⟩;rcases h.2 with ⟨y,_⟩ | ⟨J,z,G,y,_,_,_,D,_⟩
 ·cases y
 ·cases y;exact D
abbrev qt (w:World) (v:Value):World:=(w.alloc (.cells #[v] 147)).alloc (.cells #[.pointer (some ⟨w.heap.size,0,none⟩)] 117)
theorem Uo (ts:List Tk) (g cap B0 B2 f:Nat) (w0 w2:World) (res:PR Ex) (hE:zj ts) (hlen:ts.length≤4097) (hp:zd f 1 ts=some res) (hgl:g<w2.heap.size) (hcap:ts.length≤cap) (hmax:cap≤maxLen) (hcell:∀j u,(zU ts)[j]?=some u→w2.cell? ⟨g,j,none⟩=some u)
  (hb:Below w0.heap.size w0 w2) (hl:Z2 w0) (he:YD w0) (hB0:w0.heap.size≤B0) (hB2:w0.heap.size≤B2) (hB2g:B2≠g)
  (b0:w2.heap[B0]?=some (.cells #[.func (.func 74) #[] #[]] 115 (0,0))) (b2:w2.heap[B2]?=some zD) :
  Calls Tryz.prog 95 #[.func (.func 96) #[] #[.pointer (some ⟨B0,0,none⟩),.pointer (some ⟨w2.heap.size+1,0,none⟩),.pointer (some ⟨B2,0,none⟩)]] (qt w2 (.slice (some ⟨g,0,none⟩) ts.length cap)) fun e w' =>
   ∃H,Below (w2.heap.size+1+1) H w'∧YC w2.heap.size B2 w2 H∧match Zo res with
    | .error a=>e=.returned (.tuple #[.int .i64 a,.int .i64 6])
    | .ok x=>e=.returned (.tuple #[.int .i64 0,.int .i64 0])∧∃(a:Int) (b:ByteArray) (c:Int) (U:Option Addr) (V X:Nat) (l:Int),H.heap[B2]?=some (.cells #[.int .i64 a,.string b,.int .i64 c,.slice U V X,.int .i64 l] 90 (0,0))∧zQ (w2.heap.size+1+1) w' x (.agg #[.int .i64 a,.string b,.int .i64 c,.slice U V X,.int .i64 l]):=by
 obtain ⟨R,A,rfl⟩:=hE.cons;have hs:w0.heap.size≤w2.heap.size:=hb.size;have ae:5<w0.heap.size:=World.block_lt_of_cell? w0 _ (hl 0 _ rfl);have Y:4<w0.heap.size:=World.block_lt_of_cell? w0 _ he;have N:B0<w2.heap.size:=(Array.getElem?_eq_some_iff.1 b0).1;have T:B2<w2.heap.size:=(Array.getElem?_eq_some_iff.1 b2).1;obtain ⟨w3,o⟩:∃w3,w3=qt w2 (.slice (some ⟨g,0,none⟩) (R::A).length cap):=⟨_,rfl⟩;have G:w3.heap.size=w2.heap.size+1+1:=by rw [o];simp
 obtain ⟨W,D⟩:∃W,W=UQ w3:=⟨_,rfl⟩;have af:W.heap.size=w2.heap.size+1+1+1+1:=by rw [D];simp [G]
 have I:∀k,k<w3.heap.size→W.heap[k]?=w3.heap[k]?:=fun k hk=>by rw [D,Below.heap_alloc _ _ _ (by simp;omega),Below.heap_alloc _ _ _ hk]
 have ad:∀k,k<w2.heap.size→w3.heap[k]?=w2.heap[k]?:=fun k hk=>by rw [o,Below.heap_alloc _ _ _ (by simp;omega),Below.heap_alloc _ _ _ hk]
 have z:∀k,k<w2.heap.size→W.heap[k]?=w2.heap[k]?:=fun k hk=>(I k (by omega)).trans (ad k hk)
 have pr:W.heap[w2.heap.size]?=some (.cells #[.slice (some ⟨g,0,none⟩) (R::A).length cap] 147 (0,0)):=by
  rw [I _ (by omega),o,Below.heap_alloc _ _ _ (by simp)];exact World.alloc_heap_new _ _
 have p1:W.heap[w2.heap.size+1]?=some (.cells #[.pointer (some ⟨w2.heap.size,0,none⟩)] 117 (0,0)):=by
  rw [I _ (by omega),o]
  have:=World.alloc_heap_new (w2.alloc (.cells #[.slice (some ⟨g,0,none⟩) (R::A).length cap] 147)) (.cells #[.pointer (some ⟨w2.heap.size,0,none⟩)] 117)
  simpa using this
 have pa:W.heap[w3.heap.size]?=some (.cells #[.int .i64 0] 3 (0,0)):=by
  rw [D,Below.heap_alloc _ _ _ (by simp)];exact World.alloc_heap_new _ _
 have pb:W.heap[w3.heap.size+1]?=some (.cells #[.int .i64 0] 25 (0,0)):=by
  rw [D]
  have:=World.alloc_heap_new (w3.alloc (.cells #[.int .i64 0] 3)) (.cells #[.int .i64 0] 25)
  simpa using this
 have aa:zc w2.heap.size g 0 cap (R::A) W :=
  { cell:=by simp only [World.cell?,pr];rfl
    soft:=by simp only [World.frozen?,pr];simp
    hcap:=hcap
    hmax:=hmax
    other:=by omega
    toks:=fun j u hj=>by rw [Nat.zero_add,World.cell?_of_block (z g hgl)];exact hcell j u hj
    few:=by omega }
 have M:Z2 W:=fun j v hj=>by
  rw [World.cell?_of_block ((z 5 (by omega)).trans (hb.block _ ae))];exact hl j v hj
 have ab:=UK w2.heap.size g 0 cap B0 (w2.heap.size+1) B2 f _ _ (R::A) W res aa hE M (by omega) hp ((z _ N).trans b0) p1 ((z _ T).trans b2) (by omega) (by omega) hB2g (by omega)
 rw [←o];refine (xu 96 #[.pointer (some ⟨B0,0,none⟩),.pointer (some ⟨w2.heap.size+1,0,none⟩),.pointer (some ⟨B2,0,none⟩)] w3 (fun w'=>xU w2.heap.size B2 W (Zo res) (.returned (.tuple #[])) w') (fun L O w'=>L=6∧∃a:Nat,O=(a:Int)∧Zo res=.error a∧YC w2.heap.size B2 W w') (fun _=>rfl) ?_).mono ?_
 ·rw [←D]
  refine ab.mono fun e w' y=>⟨(y.1.block _ (by omega) (by omega) (by omega)).trans pa,(y.1.block _ (by omega) (by omega) (by omega)).trans pb,?_,?_⟩
  ·unfold YD
   rw [World.cell?_of_block ((y.1.block 4 (by omega) (by omega) (by omega)).trans ((z 4 (by omega)).trans (hb.block _ Y)))];exact he
  ·have Q:=y
   unfold xU at y
   cases E:Zo res with
   | error a=>rw [E] at y;exact .inr ⟨6,a,y.2,rfl,a,rfl,rfl,y.1⟩
   | ok x=>rw [E] at y Q;have:=y.2.1;subst this;exact .inl ⟨rfl,Q⟩
 ·have K:∀w',YC w2.heap.size B2 W w'→YC w2.heap.size B2 w2 w':=fun w' h=>⟨by rw [h.os,D,o];rfl,by rw [h.tape,D,o];rfl,by rw [h.output,D,o];rfl,by have:=h.size;omega,fun k hk hr hb'=>(h.block k (by omega) hr hb').trans (z k hk)⟩
  rintro e w' (⟨H,rfl,y,J,Z⟩ | ⟨L,O,H,rfl,⟨rfl,a,rfl,E,hK⟩,J⟩)
  ·rw [G] at J
   refine ⟨H,J,K _ y.1,?_⟩
   unfold xU at y
   cases E:Zo res with
   | error a=>rw [E] at y;exact absurd y.2 (by simp [Zn])
   | ok x =>
    rw [E] at y;obtain ⟨-,-,a,b,c,U,V,X,l,h1,h2⟩:=y;exact ⟨rfl,a,b,c,U,V,X,l,h1,zQ.mono (zQ.kept h2 J.size fun k hk _=>Z k (by omega) (by omega)) (by omega)⟩
  ·rw [G] at J
   refine ⟨H,J,K _ hK,?_⟩;rw [E]
theorem UZ (l:List UInt8) (w:World) (ht:Zt w) (hl:Z2 w) (he:YD w) :
  Calls Tryz.prog 73 #[.string (za l),.func (.func 74) #[] #[],.func (.func 75) #[] #[]] w fun e w' =>
   ∃(x:Ex) (at0 err:Nat) (v:Value),e=.returned (.tuple #[v,.int .i64 at0,.int .i64 err])∧zY l x at0 err∧zQ w.heap.size w' x v∧Below w.heap.size w w':=by
 obtain ⟨w1,I⟩:∃w1,w1=(((w.alloc (.cells #[.func (.func 74) #[] #[]] 115)).alloc zD).alloc zD).alloc zD:=⟨_,rfl⟩;have ay:w1.heap.size=w.heap.size+1+1+1+1:=by rw [I];simp
 have ah:Below w.heap.size w w1:=by
  rw [I];exact ((((Below.refl w.heap.size w).alloc (Nat.le_refl _) _).alloc (by simp) _).alloc (by simp <;> omega) _).alloc (by simp <;> omega) _
 have m0:w1.heap[w.heap.size]?=some (.cells #[.func (.func 74) #[] #[]] 115 (0,0)):=by
  rw [I,Below.heap_alloc _ _ _ (by simp <;> omega),Below.heap_alloc _ _ _ (by simp <;> omega),Below.heap_alloc _ _ _ (by simp)];exact World.alloc_heap_new _ _
 have m1:w1.heap[w.heap.size+1]?=some zD:=by
  rw [I,Below.heap_alloc _ _ _ (by simp <;> omega),Below.heap_alloc _ _ _ (by simp)]
  have:=World.alloc_heap_new (w.alloc (.cells #[.func (.func 74) #[] #[]] 115)) zD
  simpa using this
 have m2:w1.heap[w.heap.size+1+1]?=some zD:=by
  rw [I,Below.heap_alloc _ _ _ (by simp)]
  have:=World.alloc_heap_new ((w.alloc (.cells #[.func (.func 74) #[] #[]] 115)).alloc zD) zD
  simpa using this
 have m3:w1.heap[w.heap.size+1+1+1]?=some zD:=by
  rw [I]
  have:=World.alloc_heap_new (((w.alloc (.cells #[.func (.func 74) #[] #[]] 115)).alloc zD).alloc zD) zD
  simpa using this
 have cs:=uH l w1 (ht.below ah (Nat.le_refl _));have au:Hid (w1=(((w.alloc (.cells #[.func (.func 74) #[] #[]] 115)).alloc zD).alloc zD).alloc zD):=I;have aj:Hid (Below w.heap.size w w1):=ah;have HL:Hid (Z2 w):=hl;have HE:Hid (YD w):=he;have HM:Hid (w1.heap[w.heap.size]?=some (.cells #[.func (.func 74) #[] #[]] 115 (0,0))∧w1.heap[w.heap.size+1]?=some zD∧w1.heap[w.heap.size+1+1]?=some zD∧w1.heap[w.heap.size+1+1+1]?=some zD):=⟨m0,m1,m2,m3⟩;clear I ah hl he m0 m1 m2 m3 ht
 go_enter Tryz.func73,Tryz.ntmps73
 go_wp2_with fail
 rw [←au.out];refine cs.mono ?_;clear cs au;rintro e w2 ⟨v,rfl,ab,V⟩;have G:∀k,k<w1.heap.size→w2.heap[k]?=w1.heap[k]?:=fun k hk=>V.block k hk
 have p0:=(G _ (by omega)).trans HM.out.1
 have p1:=(G _ (by omega)).trans HM.out.2.1
 have p2:=(G _ (by omega)).trans HM.out.2.2.1
 have p3:=(G _ (by omega)).trans HM.out.2.2.2
 have o:Below w.heap.size w w2:=aj.out.trans (V.mono (by omega))
 have ap:Hid (Below w.heap.size w w2):=o;obtain ⟨a0,a1,a2,a3,a4,af⟩:=zt p1;obtain ⟨c0,c1,c2,c3,c4,-⟩:=zt p2;have aE:=V.size
 by_cases herr:(zL l).2.2≠0
 ·have HI:Hid (zY l yF (zL l).2.1 (zL l).2.2):=show zY _ _ _ _ by unfold zY;rw [if_pos herr];exact ⟨rfl,rfl,rfl⟩
  have aa:¬((zL l).2.2:Int)=0:=by omega
  generalize (zL l).2.1=A at *;generalize (zL l).2.2=E at *;have h1:((E:Int)==0)=false:=by rw [beq_eq_false_iff_ne];exact aa
  have h2:((E:Int) != 0)=true:=by simp [bne,h1]
  have h3:decide ((E:Int)=0)=false:=by rw [decide_eq_false_iff_not];exact aa
  have h4:(E==0)=false:=by rw [beq_eq_false_iff_ne];exact herr
  have h5:decide (E=0)=false:=by rw [decide_eq_false_iff_not];exact herr
  have h6:(E != 0)=true:=by simp [bne,h4]
  obtain ⟨z0,z1,z2,z3,z4⟩:=zq p1 (.int .i64 0) (.string ⟨#[]⟩) (.int .i64 0) (.slice none 0 0) (.int .i64 0)
  have av:Below w.heap.size w (set5 w2 (w.heap.size+1) (.int .i64 0) (.string ⟨#[]⟩) (.int .i64 0) (.slice none 0 0) (.int .i64 0)) :=
   ((((o.setCell (p:=⟨w.heap.size+1,0,none⟩) (by simp) _).setCell (p:=⟨w.heap.size+1,1,none⟩) (by simp) _).setCell (p:=⟨w.heap.size+1,2,none⟩) (by simp) _).setCell (p:=⟨w.heap.size+1,3,none⟩) (by simp) _).setCell (p:=⟨w.heap.size+1,4,none⟩) (by simp) _
  have M:Hid (Below w.heap.size w (set5 w2 (w.heap.size+1) (.int .i64 0) (.string ⟨#[]⟩) (.int .i64 0) (.slice none 0 0) (.int .i64 0))):=av;clear av o V ab G p0 p1 p2 p3 HM ap HL HE aj;go_wp2
  refine bodyPost_ret (v:=.tuple #[.agg #[.int .i64 0,.string ⟨#[]⟩,.int .i64 0,.slice none 0 0,.int .i64 0],.int .i64 A,.int .i64 E]) (by simp [results,Tryz.results73,go_sem,z0,z1,z2,z3,z4]) rfl ⟨yF,A,E,_,rfl,HI.out,.leaf 0 [] 0 0,M.out⟩
 ·have X:(zL l).2.2=0:=by simpa using herr
  have hE:=vJ l X;obtain ⟨t0,aB,ar⟩:=hE.cons;obtain ⟨g,J,rfl,hg,aw,aq,am,Y⟩:∃g J,v=.slice (some ⟨g,0,none⟩) (zL l).1.length J∧w1.heap.size≤g∧g<w2.heap.size∧(zL l).1.length≤J∧J≤maxLen∧∀j u,(zU (zL l).1)[j]?=some u→w2.cell? ⟨g,j,none⟩=some u:=Um ab (by rw [ar];simp)
  have an:=VW l;obtain ⟨f,res,hf,-⟩:=(YA (zL l).1.length (zL l).1 (Nat.le_refl _)).1 1;have hp:zd f 1 (zL l).1=some res:=hf 0;have ca:=Uo (zL l).1 g J w.heap.size (w.heap.size+1+1+1) f w w2 res hE an hp aw aq am Y o HL.out HE.out (Nat.le_refl _) (by omega) (by omega) p0 p3
  have aC:∀(fn:Fn) (first J:Array Value) (w:World),(Instr.makeFunc fn first J).run Tryz.prog w=.ok (.func fn first J) w:=fun _ _ _ _=>rfl
  have ae:∀x us,res=.ok (x,us)→zn x≤4097:=fun x us h=>by
   subst h
   have:=(X3 f).1 _ _ _ _ hp
   omega
  have HI:Hid (∀x at0 err,(match Zo res with | .error a=>x=yF∧at0=a∧err=6 | .ok y=>if 24<zn y then x=yF∧at0=0∧err=7 else x=y∧at0=0∧err=0)→zY l x at0 err):=fun x at0 err h=>by
   unfold zY
   rw [if_neg herr];exact ⟨f,res,hp,h⟩
  have R:Hid (∀k,k≤w.heap.size+1+1→∀Z z,Below (w2.heap.size+1+1) Z z→YC w2.heap.size (w.heap.size+1+1+1) w2 Z→z.heap[k]?=w2.heap[k]?):=fun k hk Z z h5 h6 =>
   (h5.block k (by omega)).trans (h6.block k (by omega) (by omega) (by omega))
  have ai:Hid (∀Z z,Below (w2.heap.size+1+1) Z z→YC w2.heap.size (w.heap.size+1+1+1) w2 Z→Below w.heap.size w z):=fun Z z h5 h6 =>
   ⟨h5.os.trans (h6.os.trans o.os),h5.tape.trans (h6.tape.trans o.tape),h5.output.trans (h6.output.trans o.output),by have:=h5.size;have:=h6.size;have:=o.size;omega,fun k hk=>(h5.block k (by omega)).trans ((h6.block k (by omega) (by omega) (by omega)).trans (o.block k hk))⟩
  have ad:Hid (w2.heap[w.heap.size+1]?=some zD∧w2.heap[w.heap.size+1+1]?=some zD):=⟨p1,p2⟩;rw [X];generalize (zL l).2.1=A at *;clear o V ab G p0 p1 p2 p3 HM ap HL HE aj Y hp hf hE ar a0 a1 a2 a3 a4 af c0 c1 c2 c3 c4;go_wp2_with fail
  refine ca.mono ?_;clear ca;rintro e z ⟨Z,L,U,H⟩;have q1:=(R.out (w.heap.size+1) (by omega) Z z L U).trans ad.out.1
  have q2:=(R.out (w.heap.size+1+1) (by omega) Z z L U).trans ad.out.2
  have N:=ai.out Z z L U;obtain ⟨a0,a1,a2,a3,a4,af⟩:=zt q1;obtain ⟨c0,c1,c2,c3,c4,-⟩:=zt q2
  have O:∀W,Below w.heap.size w W→∀v0 v1 v2 v3 v4,Below w.heap.size w (set5 W (w.heap.size+1) v0 v1 v2 v3 v4):=fun W hW v0 v1 v2 v3 v4 =>
   ((((hW.setCell (p:=⟨w.heap.size+1,0,none⟩) (by simp) _).setCell (p:=⟨w.heap.size+1,1,none⟩) (by simp) _).setCell (p:=⟨w.heap.size+1,2,none⟩) (by simp) _).setCell (p:=⟨w.heap.size+1,3,none⟩) (by simp) _).setCell (p:=⟨w.heap.size+1,4,none⟩) (by simp) _
  cases hR:Zo res with
  | error a =>
   rw [hR] at H;obtain rfl:=H;have T:Hid (zY l yF a 6):=HI.out yF a 6 (by rw [hR];exact ⟨rfl,rfl,rfl⟩)
   obtain ⟨z0,z1,z2,z3,z4⟩:=zq q1 (.int .i64 0) (.string ⟨#[]⟩) (.int .i64 0) (.slice none 0 0) (.int .i64 0);have M:Hid (Below w.heap.size w (set5 z (w.heap.size+1) (.int .i64 0) (.string ⟨#[]⟩) (.int .i64 0) (.slice none 0 0) (.int .i64 0))):=O z N _ _ _ _ _;clear O N q1 q2 L U HI R ai ad;go_wp2
   refine bodyPost_ret (v:=.tuple #[.agg #[.int .i64 0,.string ⟨#[]⟩,.int .i64 0,.slice none 0 0,.int .i64 0],.int .i64 a,.int .i64 6]) (by simp [results,Tryz.results73,go_sem,z0,z1,z2,z3,z4]) rfl ⟨yF,a,6,_,rfl,T.out,.leaf 0 [] 0 0,M.out⟩
  | ok x =>
   rw [hR] at H;obtain ⟨rfl,xa,xb,xc,x0,x1,x2,xl,ao,hx⟩:=H
   have aD:zn x≤4097:=by
    rcases res with a | ⟨y,us⟩
    ·cases hR
    ·unfold Zo at hR
     simp only at hR
     split at hR
     ·cases hR;exact ae _ us rfl
     ·cases hR
   have aA:=L.size;have az:=U.size;have qx:=(L.block (w.heap.size+1+1+1) (by omega)).trans ao
   obtain ⟨e0,e1,e2,e3,e4,-⟩:=zt qx;have cd:=xD (fun k=>w2.heap.size+1+1≤k) (zn x) z x _ z (Nat.le_refl _) (by omega) (Below.refl _ _) hx
   have HX:Hid (zQ (w2.heap.size+1+1) z x (.agg #[.int .i64 xa,.string xb,.int .i64 xc,.slice x0 x1 x2,.int .i64 xl])):=hx;have HQ:Hid (z.heap[w.heap.size+1]?=some zD∧z.heap[w.heap.size+1+1]?=some zD∧z.heap[w.heap.size+1+1+1]?=some (.cells #[.int .i64 xa,.string xb,.int .i64 xc,.slice x0 x1 x2,.int .i64 xl] 90 (0,0))):=⟨q1,q2,qx⟩;have ak:Hid (Below w.heap.size w z):=N;have HS:Hid (∀W,Below w.heap.size w W→∀v0 v1 v2 v3 v4,Below w.heap.size w (set5 W (w.heap.size+1) v0 v1 v2 v3 v4)):=O;have T:Hid (∀y at0 err,(if 24<zn x then y=yF∧at0=0∧err=7 else y=x∧at0=0∧err=0)→zY l y at0 err):=fun y at0 err h=>HI.out y at0 err (by rw [hR];exact h)
   generalize hD:zn x=D at *;clear O N q1 q2 qx L U HI R ai ad hx ao ae;go_wp2_with fail
   refine cd.mono ?_;clear cd a0 a1 a2 a3 a4 af c0 c1 c2 c3 c4 e0 e1 e2 e3 e4;rintro e w7 ⟨rfl,K⟩;have r1:=(K.block _ (by omega)).trans HQ.out.1
   have r2:=(K.block _ (by omega)).trans HQ.out.2.1
   have r3:=(K.block _ (by omega)).trans HQ.out.2.2
   have Q:Below w.heap.size w w7:=ak.out.trans (K.mono (by omega))
   have ag:zQ (w2.heap.size+1+1) w7 x (.agg #[.int .i64 xa,.string xb,.int .i64 xc,.slice x0 x1 x2,.int .i64 xl]):=zQ.kept HX.out K.size fun k _ hlt=>K.block k hlt
   obtain ⟨a0,a1,a2,a3,a4,af⟩:=zt r1
   by_cases hdeep:24<D
   ·obtain ⟨c0,c1,c2,c3,c4,-⟩:=zt r2
    obtain ⟨z0,z1,z2,z3,z4⟩:=zq r1 (.int .i64 0) (.string ⟨#[]⟩) (.int .i64 0) (.slice none 0 0) (.int .i64 0);have al:Hid (zY l yF 0 7):=T.out yF 0 7 (by rw [if_pos hdeep];exact ⟨rfl,rfl,rfl⟩)
    have M:Hid (Below w.heap.size w (set5 w7 (w.heap.size+1) (.int .i64 0) (.string ⟨#[]⟩) (.int .i64 0) (.slice none 0 0) (.int .i64 0))):=HS.out w7 Q _ _ _ _ _;have h1:(24:Int)<(D:Int):=by omega
    clear Q ag r1 r2 r3 K HQ HX ak HS T;go_wp2
    refine bodyPost_ret (v:=.tuple #[.agg #[.int .i64 0,.string ⟨#[]⟩,.int .i64 0,.slice none 0 0,.int .i64 0],.int .i64 0,.int .i64 7]) (by simp [results,Tryz.results73,go_sem,z0,z1,z2,z3,z4]) rfl ⟨yF,0,7,_,rfl,al.out,.leaf 0 [] 0 0,M.out⟩
   ·obtain ⟨c0,c1,c2,c3,c4,-⟩:=zt r3
    obtain ⟨z0,z1,z2,z3,z4⟩:=zq r1 (.int .i64 xa) (.string xb) (.int .i64 xc) (.slice x0 x1 x2) (.int .i64 xl);have al:Hid (zY l x 0 0):=T.out x 0 0 (by rw [if_neg hdeep];exact ⟨rfl,rfl,rfl⟩)
    have M:Hid (Below w.heap.size w (set5 w7 (w.heap.size+1) (.int .i64 xa) (.string xb) (.int .i64 xc) (.slice x0 x1 x2) (.int .i64 xl))):=HS.out w7 Q _ _ _ _ _;have ax:Hid (zQ w.heap.size (set5 w7 (w.heap.size+1) (.int .i64 xa) (.string xb) (.int .i64 xc) (.slice x0 x1 x2) (.int .i64 xl)) x (.agg #[.int .i64 xa,.string xb,.int .i64 xc,.slice x0 x1 x2,.int .i64 xl])):=zQ.mono (zQ.kept ag (w':=set5 w7 (w.heap.size+1) (.int .i64 xa) (.string xb) (.int .i64 xc) (.slice x0 x1 x2) (.int .i64 xl)) (by simp) fun k hk _=>zi _ _ _ _ _ _ _ (by omega)) (by omega)
    have h1:¬(24:Int)<(D:Int):=by omega
    clear Q ag r1 r2 r3 K HQ HX ak HS T;go_wp2
    refine bodyPost_ret (v:=.tuple #[.agg #[.int .i64 xa,.string xb,.int .i64 xc,.slice x0 x1 x2,.int .i64 xl],.int .i64 0,.int .i64 0]) (by simp [results,Tryz.results73,go_sem,z0,z1,z2,z3,z4]) rfl ⟨x,0,0,_,rfl,al.out,ax.out,M.out⟩
end Go.Proofs.YtmbofhpmockmbaaGreatDoor
