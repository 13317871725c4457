import Derived.Test.YtmbofhpmockmbaaGreatDoorMC35
import Derived.Test.YtmbofhpmockmbaaGreatDoorSDepth2
import Derived.Test.YtmbofhpmockmbaaGreatDoorMC37
import Derived.Test.YtmbofhpmockmbaaGreatDoorMC11
namespace Go.Proofs.YtmbofhpmockmbaaGreatDoor
open Go.RowKit Go.Shelf
set_option maxHeartbeats 16000000
set_option maxRecDepth 100000
abbrev yO:Ex:=.mk 0 [] 0 [] 0
def Zb (l:List UInt8) (x:Ex) (at0 err:Nat):Prop :=
 if (zS l).2.2≠0 then x=yO∧at0=(zS l).2.1∧err=(zS l).2.2 else
 ∃f res,zd f 1 (zS l).1=some res∧match Zw res with
  | .error a=>x=yO∧at0=a∧err=6
  | .ok y=>if 24<zo y then x=yO∧at0=0∧err=7 else x=y∧at0=0∧err=0
theorem Xy (l:List UInt8):∀(f line a:Nat),(Zu l f line a).1.length≤f
 | 0,_,_=>by simp [Zu]
 | f+1,line,a=>by
  have o:=Xy l f (ZK l line a) (zG l a+(zw l a).sz);rw [Zu]
  split
  ·simp
  ·split
   ·simp
   ·split
    ·simp
    ·simp only [List.length_cons];omega
theorem uB (l:List UInt8):(zS l).1.length≤4097:=by
 unfold zS
 split
 ·simp
 ·have:=Xy l (l.length+1) 1 0
  omega
theorem UX {w:World} {B e sz n:Nat} {v:Value} {xs:List Value} (h:w.ownsRow B e sz v n xs) (hn:1≤n):∃g o,v=.slice (some ⟨g,0,none⟩) n o∧B≤g∧g<w.heap.size∧n≤o∧o≤maxLen∧∀j u,xs[j]?=some u→w.cell? ⟨g,j,none⟩=some u:=by
 obtain ⟨g,o,rfl,H,D,G,A⟩:=uv h hn;refine ⟨g,o,rfl,H,D,G,?_,A⟩;rcases h.2 with ⟨y,_⟩ | ⟨J,z,E,y,_,_,_,I,_⟩
 ·cases y
 ·cases y;exact I
abbrev Qa (w:World) (v:Value):World:=(w.alloc (.cells #[v] 147)).alloc (.cells #[.pointer (some ⟨w.heap.size,0,none⟩)] 117)
theorem UY (ts:List Tk) (g cap B0 B2 f:Nat) (w0 w2:World) (res:PR Ex) (hE:zk ts) (hlen:ts.length≤4097) (hp:zd f 1 ts=some res) (hgl:g<w2.heap.size) (hcap:ts.length≤cap) (hmax:cap≤maxLen) (hcell:∀j u,(z6 ts)[j]?=some u→w2.cell? ⟨g,j,none⟩=some u)
  (hb:Below w0.heap.size w0 w2) (hl:yc w0) (he:Y3 w0) (hB0:w0.heap.size≤B0) (hB2:w0.heap.size≤B2) (hB2g:B2≠g)
  (b0:w2.heap[B0]?=some (.cells #[.func (.func 74) #[] #[]] 115 (0,0))) (b2:w2.heap[B2]?=some zE) :
  Calls Tryz.prog 95 #[.func (.func 96) #[] #[.pointer (some ⟨B0,0,none⟩),.pointer (some ⟨w2.heap.size+1,0,none⟩),.pointer (some ⟨B2,0,none⟩)]] (Qa w2 (.slice (some ⟨g,0,none⟩) ts.length cap)) fun e w' =>
   ∃H,Below (w2.heap.size+1+1) H w'∧Y2 w2.heap.size B2 w2 H∧match Zw res with
    | .error a=>e=.returned (.tuple #[.int .i64 a,.int .i64 6])
    | .ok x=>e=.returned (.tuple #[.int .i64 0,.int .i64 0])∧∃(a:Int) (b:ByteArray) (c:Int) (X:Option Addr) (Y V:Nat) (l:Int),H.heap[B2]?=some (.cells #[.int .i64 a,.string b,.int .i64 c,.slice X Y V,.int .i64 l] 90 (0,0))∧zX (w2.heap.size+1+1) w' x (.agg #[.int .i64 a,.string b,.int .i64 c,.slice X Y V,.int .i64 l]):=by
 obtain ⟨L,A,rfl⟩:=hE.cons;have hs:w0.heap.size≤w2.heap.size:=hb.size;have ab:5<w0.heap.size:=World.block_lt_of_cell? w0 _ (hl 0 _ rfl);have Z:4<w0.heap.size:=World.block_lt_of_cell? w0 _ he;have O:B0<w2.heap.size:=(Array.getElem?_eq_some_iff.1 b0).1;have K:B2<w2.heap.size:=(Array.getElem?_eq_some_iff.1 b2).1;obtain ⟨w3,y⟩:∃w3,w3=Qa w2 (.slice (some ⟨g,0,none⟩) (L::A).length cap):=⟨_,rfl⟩;have I:w3.heap.size=w2.heap.size+1+1:=by rw [y];simp
 obtain ⟨W,D⟩:∃W,W=qw w3:=⟨_,rfl⟩;have ag:W.heap.size=w2.heap.size+1+1+1+1:=by rw [D];simp [I]
 have G:∀k,k<w3.heap.size→W.heap[k]?=w3.heap[k]?:=fun k hk=>by rw [D,Below.heap_alloc _ _ _ (by simp;omega),Below.heap_alloc _ _ _ hk]
 have ad:∀k,k<w2.heap.size→w3.heap[k]?=w2.heap[k]?:=fun k hk=>by rw [y,Below.heap_alloc _ _ _ (by simp;omega),Below.heap_alloc _ _ _ hk]
 have z:∀k,k<w2.heap.size→W.heap[k]?=w2.heap[k]?:=fun k hk=>(G k (by omega)).trans (ad k hk)
 have pr:W.heap[w2.heap.size]?=some (.cells #[.slice (some ⟨g,0,none⟩) (L::A).length cap] 147 (0,0)):=by
  rw [G _ (by omega),y,Below.heap_alloc _ _ _ (by simp)];exact World.alloc_heap_new _ _
 have p1:W.heap[w2.heap.size+1]?=some (.cells #[.pointer (some ⟨w2.heap.size,0,none⟩)] 117 (0,0)):=by
  rw [G _ (by omega),y]
  have:=World.alloc_heap_new (w2.alloc (.cells #[.slice (some ⟨g,0,none⟩) (L::A).length cap] 147)) (.cells #[.pointer (some ⟨w2.heap.size,0,none⟩)] 117)
  simpa using this
 have pa:W.heap[w3.heap.size]?=some (.cells #[.int .i64 0] 3 (0,0)):=by
  rw [D,Below.heap_alloc _ _ _ (by simp)];exact World.alloc_heap_new _ _
 have pb:W.heap[w3.heap.size+1]?=some (.cells #[.int .i64 0] 25 (0,0)):=by
  rw [D]
  have:=World.alloc_heap_new (w3.alloc (.cells #[.int .i64 0] 3)) (.cells #[.int .i64 0] 25)
  simpa using this
 have aa:zc w2.heap.size g 0 cap (L::A) W :=
  { cell:=by simp only [World.cell?,pr];rfl
    soft:=by simp only [World.frozen?,pr];simp
    hcap:=hcap
    hmax:=hmax
    other:=by omega
    toks:=fun j u hj=>by rw [Nat.zero_add,World.cell?_of_block (z g hgl)];exact hcell j u hj
    few:=by omega }
 have T:yc W:=fun j v hj=>by
  rw [World.cell?_of_block ((z 5 (by omega)).trans (hb.block _ ab))];exact hl j v hj
 have ae:=qp w2.heap.size g 0 cap B0 (w2.heap.size+1) B2 f _ _ (L::A) W res aa hE T (by omega) hp ((z _ O).trans b0) p1 ((z _ K).trans b2) (by omega) (by omega) hB2g (by omega)
 rw [←y];refine (xW 96 #[.pointer (some ⟨B0,0,none⟩),.pointer (some ⟨w2.heap.size+1,0,none⟩),.pointer (some ⟨B2,0,none⟩)] w3 (fun w'=>XA w2.heap.size B2 W (Zw res) (.returned (.tuple #[])) w') (fun R U w'=>R=6∧∃a:Nat,U=(a:Int)∧Zw res=.error a∧Y2 w2.heap.size B2 W w') (fun _=>rfl) ?_).mono ?_
 ·rw [←D]
  refine ae.mono fun e w' o=>⟨(o.1.block _ (by omega) (by omega) (by omega)).trans pa,(o.1.block _ (by omega) (by omega) (by omega)).trans pb,?_,?_⟩
  ·unfold Y3
   rw [World.cell?_of_block ((o.1.block 4 (by omega) (by omega) (by omega)).trans ((z 4 (by omega)).trans (hb.block _ Z)))];exact he
  ·have M:=o
   unfold XA at o
   cases E:Zw res with
   | error a=>rw [E] at o;exact .inr ⟨6,a,o.2,rfl,a,rfl,rfl,o.1⟩
   | ok x=>rw [E] at o M;have:=o.2.1;subst this;exact .inl ⟨rfl,M⟩
 ·have Q:∀w',Y2 w2.heap.size B2 W w'→Y2 w2.heap.size B2 w2 w':=fun w' h=>⟨by rw [h.os,D,y];rfl,by rw [h.tape,D,y];rfl,by rw [h.output,D,y];rfl,by have:=h.size;omega,fun k hk hr hb'=>(h.block k (by omega) hr hb').trans (z k hk)⟩
  rintro e w' (⟨H,rfl,o,J,af⟩ | ⟨R,U,H,rfl,⟨rfl,a,rfl,E,hK⟩,J⟩)
  ·rw [I] at J
   refine ⟨H,J,Q _ o.1,?_⟩
   unfold XA at o
   cases E:Zw res with
   | error a=>rw [E] at o;exact absurd o.2 (by simp [Zv])
   | ok x =>
    rw [E] at o;obtain ⟨-,-,a,b,c,X,Y,V,l,h1,h2⟩:=o;exact ⟨rfl,a,b,c,X,Y,V,l,h1,zX.mono (zX.kept h2 J.size fun k hk _=>af k (by omega) (by omega)) (by omega)⟩
  ·rw [I] at J
   refine ⟨H,J,Q _ hK,?_⟩;rw [E]
theorem qE (l:List UInt8) (w:World) (ht:ZB w) (hl:yc w) (he:Y3 w) :
  Calls Tryz.prog 73 #[.string (za l),.func (.func 74) #[] #[],.func (.func 75) #[] #[]] w fun e w' =>
   ∃(x:Ex) (at0 err:Nat) (v:Value),e=.returned (.tuple #[v,.int .i64 at0,.int .i64 err])∧Zb l x at0 err∧zX w.heap.size w' x v∧Below w.heap.size w w':=by
 obtain ⟨w1,J⟩:∃w1,w1=(((w.alloc (.cells #[.func (.func 74) #[] #[]] 115)).alloc zE).alloc zE).alloc zE:=⟨_,rfl⟩;have aA:w1.heap.size=w.heap.size+1+1+1+1:=by rw [J];simp
 have ak:Below w.heap.size w w1:=by
  rw [J];exact ((((Below.refl w.heap.size w).alloc (Nat.le_refl _) _).alloc (by simp) _).alloc (by simp <;> omega) _).alloc (by simp <;> omega) _
 have m0:w1.heap[w.heap.size]?=some (.cells #[.func (.func 74) #[] #[]] 115 (0,0)):=by
  rw [J,Below.heap_alloc _ _ _ (by simp <;> omega),Below.heap_alloc _ _ _ (by simp <;> omega),Below.heap_alloc _ _ _ (by simp)];exact World.alloc_heap_new _ _
 have m1:w1.heap[w.heap.size+1]?=some zE:=by
  rw [J,Below.heap_alloc _ _ _ (by simp <;> omega),Below.heap_alloc _ _ _ (by simp)]
  have:=World.alloc_heap_new (w.alloc (.cells #[.func (.func 74) #[] #[]] 115)) zE
  simpa using this
 have m2:w1.heap[w.heap.size+1+1]?=some zE:=by
  rw [J,Below.heap_alloc _ _ _ (by simp)]
  have:=World.alloc_heap_new ((w.alloc (.cells #[.func (.func 74) #[] #[]] 115)).alloc zE) zE
  simpa using this
 have m3:w1.heap[w.heap.size+1+1+1]?=some zE:=by
  rw [J]
  have:=World.alloc_heap_new (((w.alloc (.cells #[.func (.func 74) #[] #[]] 115)).alloc zE).alloc zE) zE
  simpa using this
 have cs:=Uq l w1 (ht.below ak (Nat.le_refl _));have av:Hid (w1=(((w.alloc (.cells #[.func (.func 74) #[] #[]] 115)).alloc zE).alloc zE).alloc zE):=J;have ag:Hid (Below w.heap.size w w1):=ak;have HL:Hid (yc w):=hl;have HE:Hid (Y3 w):=he;have HM:Hid (w1.heap[w.heap.size]?=some (.cells #[.func (.func 74) #[] #[]] 115 (0,0))∧w1.heap[w.heap.size+1]?=some zE∧w1.heap[w.heap.size+1+1]?=some zE∧w1.heap[w.heap.size+1+1+1]?=some zE):=⟨m0,m1,m2,m3⟩;clear J ak hl he m0 m1 m2 m3 ht
 go_enter Tryz.func73,Tryz.ntmps73
 go_wp2_with fail
 rw [←av.out];refine cs.mono ?_;clear cs av;rintro e w2 ⟨v,rfl,Y,X⟩;have G:∀k,k<w1.heap.size→w2.heap[k]?=w1.heap[k]?:=fun k hk=>X.block k hk
 have p0:=(G _ (by omega)).trans HM.out.1
 have p1:=(G _ (by omega)).trans HM.out.2.1
 have p2:=(G _ (by omega)).trans HM.out.2.2.1
 have p3:=(G _ (by omega)).trans HM.out.2.2.2
 have o:Below w.heap.size w w2:=ag.out.trans (X.mono (by omega))
 have ar:Hid (Below w.heap.size w w2):=o;obtain ⟨a0,a1,a2,a3,a4,af⟩:=zv p1;obtain ⟨c0,c1,c2,c3,c4,-⟩:=zv p2;have ay:=X.size
 by_cases herr:(zS l).2.2≠0
 ·have HI:Hid (Zb l yO (zS l).2.1 (zS l).2.2):=show Zb _ _ _ _ by unfold Zb;rw [if_pos herr];exact ⟨rfl,rfl,rfl⟩
  have ab:¬((zS l).2.2:Int)=0:=by omega
  generalize (zS l).2.1=A at *;generalize (zS l).2.2=E at *;have h1:((E:Int)==0)=false:=by rw [beq_eq_false_iff_ne];exact ab
  have h2:((E:Int) != 0)=true:=by simp [bne,h1]
  have h3:decide ((E:Int)=0)=false:=by rw [decide_eq_false_iff_not];exact ab
  have h4:(E==0)=false:=by rw [beq_eq_false_iff_ne];exact herr
  have h5:decide (E=0)=false:=by rw [decide_eq_false_iff_not];exact herr
  have h6:(E != 0)=true:=by simp [bne,h4]
  obtain ⟨z0,z1,z2,z3,z4⟩:=zr p1 (.int .i64 0) (.string ⟨#[]⟩) (.int .i64 0) (.slice none 0 0) (.int .i64 0)
  have au:Below w.heap.size w (set5 w2 (w.heap.size+1) (.int .i64 0) (.string ⟨#[]⟩) (.int .i64 0) (.slice none 0 0) (.int .i64 0)) :=
   ((((o.setCell (p:=⟨w.heap.size+1,0,none⟩) (by simp) _).setCell (p:=⟨w.heap.size+1,1,none⟩) (by simp) _).setCell (p:=⟨w.heap.size+1,2,none⟩) (by simp) _).setCell (p:=⟨w.heap.size+1,3,none⟩) (by simp) _).setCell (p:=⟨w.heap.size+1,4,none⟩) (by simp) _
  have L:Hid (Below w.heap.size w (set5 w2 (w.heap.size+1) (.int .i64 0) (.string ⟨#[]⟩) (.int .i64 0) (.slice none 0 0) (.int .i64 0))):=au;clear au o X Y G p0 p1 p2 p3 HM ar HL HE ag;go_wp2
  refine bodyPost_ret (v:=.tuple #[.agg #[.int .i64 0,.string ⟨#[]⟩,.int .i64 0,.slice none 0 0,.int .i64 0],.int .i64 A,.int .i64 E]) (by simp [results,Tryz.results73,go_sem,z0,z1,z2,z3,z4]) rfl ⟨yO,A,E,_,rfl,HI.out,.leaf 0 [] 0 0,L.out⟩
 ·have aa:(zS l).2.2=0:=by simpa using herr
  have hE:=Vq l aa;obtain ⟨t0,aB,am⟩:=hE.cons;obtain ⟨g,K,rfl,hg,aw,ao,an,Z⟩:∃g K,v=.slice (some ⟨g,0,none⟩) (zS l).1.length K∧w1.heap.size≤g∧g<w2.heap.size∧(zS l).1.length≤K∧K≤maxLen∧∀j u,(z6 (zS l).1)[j]?=some u→w2.cell? ⟨g,j,none⟩=some u:=UX Y (by rw [am];simp)
  have aq:=uB l;obtain ⟨f,res,hf,-⟩:=(Y1 (zS l).1.length (zS l).1 (Nat.le_refl _)).1 1;have hp:zd f 1 (zS l).1=some res:=hf 0;have ca:=UY (zS l).1 g K w.heap.size (w.heap.size+1+1+1) f w w2 res hE aq hp aw ao an Z o HL.out HE.out (Nat.le_refl _) (by omega) (by omega) p0 p3
  have aE:∀(fn:Fn) (first K:Array Value) (w:World),(Instr.makeFunc fn first K).run Tryz.prog w=.ok (.func fn first K) w:=fun _ _ _ _=>rfl
  have ae:∀x us,res=.ok (x,us)→zo x≤4097:=fun x us h=>by
   subst h
   have:=(vJ f).1 _ _ _ _ hp
   omega
  have HI:Hid (∀x at0 err,(match Zw res with | .error a=>x=yO∧at0=a∧err=6 | .ok y=>if 24<zo y then x=yO∧at0=0∧err=7 else x=y∧at0=0∧err=0)→Zb l x at0 err):=fun x at0 err h=>by
   unfold Zb
   rw [if_neg herr];exact ⟨f,res,hp,h⟩
  have T:Hid (∀k,k≤w.heap.size+1+1→∀w5 z,Below (w2.heap.size+1+1) w5 z→Y2 w2.heap.size (w.heap.size+1+1+1) w2 w5→z.heap[k]?=w2.heap[k]?):=fun k hk w5 z h5 h6 =>
   (h5.block k (by omega)).trans (h6.block k (by omega) (by omega) (by omega))
  have ah:Hid (∀w5 z,Below (w2.heap.size+1+1) w5 z→Y2 w2.heap.size (w.heap.size+1+1+1) w2 w5→Below w.heap.size w z):=fun w5 z h5 h6 =>
   ⟨h5.os.trans (h6.os.trans o.os),h5.tape.trans (h6.tape.trans o.tape),h5.output.trans (h6.output.trans o.output),by have:=h5.size;have:=h6.size;have:=o.size;omega,fun k hk=>(h5.block k (by omega)).trans ((h6.block k (by omega) (by omega) (by omega)).trans (o.block k hk))⟩
  have ad:Hid (w2.heap[w.heap.size+1]?=some zE∧w2.heap[w.heap.size+1+1]?=some zE):=⟨p1,p2⟩;rw [aa];generalize (zS l).2.1=A at *;clear o X Y G p0 p1 p2 p3 HM ar HL HE ag Z hp hf hE am a0 a1 a2 a3 a4 af c0 c1 c2 c3 c4;go_wp2_with fail
  refine ca.mono ?_;clear ca;rintro e z ⟨w5,M,U,H⟩;have q1:=(T.out (w.heap.size+1) (by omega) w5 z M U).trans ad.out.1
  have q2:=(T.out (w.heap.size+1+1) (by omega) w5 z M U).trans ad.out.2
  have R:=ah.out w5 z M U;obtain ⟨a0,a1,a2,a3,a4,af⟩:=zv q1;obtain ⟨c0,c1,c2,c3,c4,-⟩:=zv q2
  have O:∀W,Below w.heap.size w W→∀v0 v1 v2 v3 v4,Below w.heap.size w (set5 W (w.heap.size+1) v0 v1 v2 v3 v4):=fun W hW v0 v1 v2 v3 v4 =>
   ((((hW.setCell (p:=⟨w.heap.size+1,0,none⟩) (by simp) _).setCell (p:=⟨w.heap.size+1,1,none⟩) (by simp) _).setCell (p:=⟨w.heap.size+1,2,none⟩) (by simp) _).setCell (p:=⟨w.heap.size+1,3,none⟩) (by simp) _).setCell (p:=⟨w.heap.size+1,4,none⟩) (by simp) _
  cases hR:Zw res with
  | error a =>
   rw [hR] at H;obtain rfl:=H;have V:Hid (Zb l yO a 6):=HI.out yO a 6 (by rw [hR];exact ⟨rfl,rfl,rfl⟩)
   obtain ⟨z0,z1,z2,z3,z4⟩:=zr q1 (.int .i64 0) (.string ⟨#[]⟩) (.int .i64 0) (.slice none 0 0) (.int .i64 0);have L:Hid (Below w.heap.size w (set5 z (w.heap.size+1) (.int .i64 0) (.string ⟨#[]⟩) (.int .i64 0) (.slice none 0 0) (.int .i64 0))):=O z R _ _ _ _ _;clear O R q1 q2 M U HI T ah ad;go_wp2
   refine bodyPost_ret (v:=.tuple #[.agg #[.int .i64 0,.string ⟨#[]⟩,.int .i64 0,.slice none 0 0,.int .i64 0],.int .i64 a,.int .i64 6]) (by simp [results,Tryz.results73,go_sem,z0,z1,z2,z3,z4]) rfl ⟨yO,a,6,_,rfl,V.out,.leaf 0 [] 0 0,L.out⟩
  | ok x =>
   rw [hR] at H;obtain ⟨rfl,xa,xb,xc,x0,x1,x2,xl,ap,hx⟩:=H
   have aC:zo x≤4097:=by
    rcases res with a | ⟨y,us⟩
    ·cases hR
    ·unfold Zw at hR
     simp only at hR
     split at hR
     ·cases hR;exact ae _ us rfl
     ·cases hR
   have az:=M.size;have aD:=U.size;have qx:=(M.block (w.heap.size+1+1+1) (by omega)).trans ap
   obtain ⟨e0,e1,e2,e3,e4,-⟩:=zv qx;have cd:=Xd (fun k=>w2.heap.size+1+1≤k) (zo x) z x _ z (Nat.le_refl _) (by omega) (Below.refl _ _) hx
   have HX:Hid (zX (w2.heap.size+1+1) z x (.agg #[.int .i64 xa,.string xb,.int .i64 xc,.slice x0 x1 x2,.int .i64 xl])):=hx;have HQ:Hid (z.heap[w.heap.size+1]?=some zE∧z.heap[w.heap.size+1+1]?=some zE∧z.heap[w.heap.size+1+1+1]?=some (.cells #[.int .i64 xa,.string xb,.int .i64 xc,.slice x0 x1 x2,.int .i64 xl] 90 (0,0))):=⟨q1,q2,qx⟩;have ai:Hid (Below w.heap.size w z):=R;have HS:Hid (∀W,Below w.heap.size w W→∀v0 v1 v2 v3 v4,Below w.heap.size w (set5 W (w.heap.size+1) v0 v1 v2 v3 v4)):=O;have V:Hid (∀y at0 err,(if 24<zo x then y=yO∧at0=0∧err=7 else y=x∧at0=0∧err=0)→Zb l y at0 err):=fun y at0 err h=>HI.out y at0 err (by rw [hR];exact h)
   generalize hD:zo x=D at *;clear O R q1 q2 qx M U HI T ah ad hx ap ae;go_wp2_with fail
   refine cd.mono ?_;clear cd a0 a1 a2 a3 a4 af c0 c1 c2 c3 c4 e0 e1 e2 e3 e4;rintro e w7 ⟨rfl,I⟩;have r1:=(I.block _ (by omega)).trans HQ.out.1
   have r2:=(I.block _ (by omega)).trans HQ.out.2.1
   have r3:=(I.block _ (by omega)).trans HQ.out.2.2
   have Q:Below w.heap.size w w7:=ai.out.trans (I.mono (by omega))
   have aj:zX (w2.heap.size+1+1) w7 x (.agg #[.int .i64 xa,.string xb,.int .i64 xc,.slice x0 x1 x2,.int .i64 xl]):=zX.kept HX.out I.size fun k _ hlt=>I.block k hlt
   obtain ⟨a0,a1,a2,a3,a4,af⟩:=zv r1
   by_cases hdeep:24<D
   ·obtain ⟨c0,c1,c2,c3,c4,-⟩:=zv r2
    obtain ⟨z0,z1,z2,z3,z4⟩:=zr r1 (.int .i64 0) (.string ⟨#[]⟩) (.int .i64 0) (.slice none 0 0) (.int .i64 0);have al:Hid (Zb l yO 0 7):=V.out yO 0 7 (by rw [if_pos hdeep];exact ⟨rfl,rfl,rfl⟩)
    have L:Hid (Below w.heap.size w (set5 w7 (w.heap.size+1) (.int .i64 0) (.string ⟨#[]⟩) (.int .i64 0) (.slice none 0 0) (.int .i64 0))):=HS.out w7 Q _ _ _ _ _;have h1:(24:Int)<(D:Int):=by omega
    clear Q aj r1 r2 r3 I HQ HX ai HS V;go_wp2
    refine bodyPost_ret (v:=.tuple #[.agg #[.int .i64 0,.string ⟨#[]⟩,.int .i64 0,.slice none 0 0,.int .i64 0],.int .i64 0,.int .i64 7]) (by simp [results,Tryz.results73,go_sem,z0,z1,z2,z3,z4]) rfl ⟨yO,0,7,_,rfl,al.out,.leaf 0 [] 0 0,L.out⟩
   ·obtain ⟨c0,c1,c2,c3,c4,-⟩:=zv r3
    obtain ⟨z0,z1,z2,z3,z4⟩:=zr r1 (.int .i64 xa) (.string xb) (.int .i64 xc) (.slice x0 x1 x2) (.int .i64 xl);have al:Hid (Zb l x 0 0):=V.out x 0 0 (by rw [if_neg hdeep];exact ⟨rfl,rfl,rfl⟩)
    have L:Hid (Below w.heap.size w (set5 w7 (w.heap.size+1) (.int .i64 xa) (.string xb) (.int .i64 xc) (.slice x0 x1 x2) (.int .i64 xl))):=HS.out w7 Q _ _ _ _ _;have ax:Hid (zX w.heap.size (set5 w7 (w.heap.size+1) (.int .i64 xa) (.string xb) (.int .i64 xc) (.slice x0 x1 x2) (.int .i64 xl)) x (.agg #[.int .i64 xa,.string xb,.int .i64 xc,.slice x0 x1 x2,.int .i64 xl])):=zX.mono (zX.kept aj (w':=set5 w7 (w.heap.size+1) (.int .i64 xa) (.string xb) (.int .i64 xc) (.slice x0 x1 x2) (.int .i64 xl)) (by simp) fun k hk _=>zj _ _ _ _ _ _ _ (by omega)) (by omega)
    have h1:¬(24:Int)<(D:Int):=by omega
    clear Q aj r1 r2 r3 I HQ HX ai HS V;go_wp2
    refine bodyPost_ret (v:=.tuple #[.agg #[.int .i64 xa,.string xb,.int .i64 xc,.slice x0 x1 x2,.int .i64 xl],.int .i64 0,.int .i64 0]) (by simp [results,Tryz.results73,go_sem,z0,z1,z2,z3,z4]) rfl ⟨x,0,0,_,rfl,al.out,ax.out,L.out⟩
end Go.Proofs.YtmbofhpmockmbaaGreatDoor
