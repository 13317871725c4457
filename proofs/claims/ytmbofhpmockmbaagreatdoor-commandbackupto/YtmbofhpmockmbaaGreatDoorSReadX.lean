import Derived.Test.YtmbofhpmockmbaaGreatDoorMC30
import Derived.Test.YtmbofhpmockmbaaGreatDoorSDepth2
import Derived.Test.YtmbofhpmockmbaaGreatDoorXLives
import Derived.Test.YtmbofhpmockmbaaGreatDoorMC6
namespace Go.Proofs.YtmbofhpmockmbaaGreatDoor
open Go.RowKit Go.Shelf
set_option maxHeartbeats 16000000
set_option maxRecDepth 100000
abbrev yf:Ex:=.mk 0 [] 0 [] 0
def zS (l:List UInt8) (x:Ex) (at0 err:Nat):Prop :=
 if (zJ l).2.2≠0 then x=yf∧at0=(zJ l).2.1∧err=(zJ l).2.2 else
 ∃f res,zd f 1 (zJ l).1=some res∧match Zf res with
  | .error a=>x=yf∧at0=a∧err=6
  | .ok y=>if 24<zl y then x=yf∧at0=0∧err=7 else x=y∧at0=0∧err=0
theorem Y1 (l:List UInt8):∀(f line a:Nat),(Zd l f line a).1.length≤f
 | 0,_,_=>by simp [Zd]
 | f+1,line,a=>by
  have e:=Y1 l f (Zo l line a) (zC l a+(zs l a).sz);rw [Zd]
  split
  ·simp
  ·split
   ·simp
   ·split
    ·simp
    ·simp only [List.length_cons];omega
theorem vx (l:List UInt8):(zJ l).1.length≤4097:=by
 unfold zJ
 split
 ·simp
 ·have:=Y1 l (l.length+1) 1 0
  omega
theorem Vz {w:World} {B e sz n:Nat} {v:Value} {xs:List Value} (h:w.ownsRow B e sz v n xs) (hn:1≤n):∃g o,v=.slice (some ⟨g,0,none⟩) n o∧B≤g∧g<w.heap.size∧n≤o∧o≤maxLen∧∀j u,xs[j]?=some u→w.cell? ⟨g,j,none⟩=some u:=by
 obtain ⟨g,o,rfl,H,z,A,G⟩:=vw h hn;refine ⟨g,o,rfl,H,z,A,?_,G⟩;rcases h.2 with ⟨x,_⟩ | ⟨I,y,D,x,_,_,_,E,_⟩
 ·cases x
 ·cases x;exact E
abbrev uw (w:World) (v:Value):World:=(w.alloc (.cells #[v] 147)).alloc (.cells #[.pointer (some ⟨w.heap.size,0,none⟩)] 117)
theorem VA (ts:List Tk) (g cap B0 B2 f:Nat) (w0 w2:World) (res:PR Ex) (hE:zh ts) (hlen:ts.length≤4097) (hp:zd f 1 ts=some res) (hgl:g<w2.heap.size) (hcap:ts.length≤cap) (hmax:cap≤maxLen) (hcell:∀j u,(zO ts)[j]?=some u→w2.cell? ⟨g,j,none⟩=some u)
  (hb:Below w0.heap.size w0 w2) (hl:ZL w0) (he:y3 w0) (hB0:w0.heap.size≤B0) (hB2:w0.heap.size≤B2) (hB2g:B2≠g)
  (b0:w2.heap[B0]?=some (.cells #[.func (.func 74) #[] #[]] 115 (0,0))) (b2:w2.heap[B2]?=some zA) :
  Calls Tryz.prog 95 #[.func (.func 96) #[] #[.pointer (some ⟨B0,0,none⟩),.pointer (some ⟨w2.heap.size+1,0,none⟩),.pointer (some ⟨B2,0,none⟩)]] (uw w2 (.slice (some ⟨g,0,none⟩) ts.length cap)) fun e w' =>
   ∃H,Below (w2.heap.size+1+1) H w'∧y0 w2.heap.size B2 w2 H∧match Zf res with
    | .error a=>e=.returned (.tuple #[.int .i64 a,.int .i64 6])
    | .ok x=>e=.returned (.tuple #[.int .i64 0,.int .i64 0])∧∃(a:Int) (b:ByteArray) (c:Int) (U:Option Addr) (V T:Nat) (l:Int),H.heap[B2]?=some (.cells #[.int .i64 a,.string b,.int .i64 c,.slice U V T,.int .i64 l] 90 (0,0))∧zM (w2.heap.size+1+1) w' x (.agg #[.int .i64 a,.string b,.int .i64 c,.slice U V T,.int .i64 l]):=by
 obtain ⟨L,A,rfl⟩:=hE.cons;have hs:w0.heap.size≤w2.heap.size:=hb.size;have Z:5<w0.heap.size:=World.block_lt_of_cell? w0 _ (hl 0 _ rfl);have X:4<w0.heap.size:=World.block_lt_of_cell? w0 _ he;have M:B0<w2.heap.size:=(Array.getElem?_eq_some_iff.1 b0).1;have S:B2<w2.heap.size:=(Array.getElem?_eq_some_iff.1 b2).1;obtain ⟨w3,y⟩:∃w3,w3=uw w2 (.slice (some ⟨g,0,none⟩) (L::A).length cap):=⟨_,rfl⟩;have I:w3.heap.size=w2.heap.size+1+1:=by rw [y];simp
 obtain ⟨W,D⟩:∃W,W=VZ w3:=⟨_,rfl⟩;have ae:W.heap.size=w2.heap.size+1+1+1+1:=by rw [D];simp [I]
 have G:∀k,k<w3.heap.size→W.heap[k]?=w3.heap[k]?:=fun k hk=>by rw [D,Below.heap_alloc _ _ _ (by simp;omega),Below.heap_alloc _ _ _ hk]
 have ad:∀k,k<w2.heap.size→w3.heap[k]?=w2.heap[k]?:=fun k hk=>by rw [y,Below.heap_alloc _ _ _ (by simp;omega),Below.heap_alloc _ _ _ hk]
 have z:∀k,k<w2.heap.size→W.heap[k]?=w2.heap[k]?:=fun k hk=>(G k (by omega)).trans (ad k hk)
 have pr:W.heap[w2.heap.size]?=some (.cells #[.slice (some ⟨g,0,none⟩) (L::A).length cap] 147 (0,0)):=by
  rw [G _ (by omega),y,Below.heap_alloc _ _ _ (by simp)];exact World.alloc_heap_new _ _
 have p1:W.heap[w2.heap.size+1]?=some (.cells #[.pointer (some ⟨w2.heap.size,0,none⟩)] 117 (0,0)):=by
  rw [G _ (by omega),y]
  have:=World.alloc_heap_new (w2.alloc (.cells #[.slice (some ⟨g,0,none⟩) (L::A).length cap] 147)) (.cells #[.pointer (some ⟨w2.heap.size,0,none⟩)] 117)
  simpa using this
 have pa:W.heap[w3.heap.size]?=some (.cells #[.int .i64 0] 3 (0,0)):=by
  rw [D,Below.heap_alloc _ _ _ (by simp)];exact World.alloc_heap_new _ _
 have pb:W.heap[w3.heap.size+1]?=some (.cells #[.int .i64 0] 25 (0,0)):=by
  rw [D]
  have:=World.alloc_heap_new (w3.alloc (.cells #[.int .i64 0] 3)) (.cells #[.int .i64 0] 25)
  simpa using this
 have Y:zc w2.heap.size g 0 cap (L::A) W :=
  { cell:=by simp only [World.cell?,pr];rfl
    soft:=by simp only [World.frozen?,pr];simp
    hcap:=hcap
    hmax:=hmax
    other:=by omega
    toks:=fun j u hj=>by rw [Nat.zero_add,World.cell?_of_block (z g hgl)];exact hcell j u hj
    few:=by omega }
 have O:ZL W:=fun j v hj=>by
  rw [World.cell?_of_block ((z 5 (by omega)).trans (hb.block _ Z))];exact hl j v hj
 have aa:=VT w2.heap.size g 0 cap B0 (w2.heap.size+1) B2 f _ _ (L::A) W res Y hE O (by omega) hp ((z _ M).trans b0) p1 ((z _ S).trans b2) (by omega) (by omega) hB2g (by omega)
 rw [←y];refine (YD 96 #[.pointer (some ⟨B0,0,none⟩),.pointer (some ⟨w2.heap.size+1,0,none⟩),.pointer (some ⟨B2,0,none⟩)] w3 (fun w'=>YZ w2.heap.size B2 W (Zf res) (.returned (.tuple #[])) w') (fun Q K w'=>Q=6∧∃a:Nat,K=(a:Int)∧Zf res=.error a∧y0 w2.heap.size B2 W w') (fun _=>rfl) ?_).mono ?_
 ·rw [←D]
  refine aa.mono fun e w' o=>⟨(o.1.block _ (by omega) (by omega) (by omega)).trans pa,(o.1.block _ (by omega) (by omega) (by omega)).trans pb,?_,?_⟩
  ·unfold y3
   rw [World.cell?_of_block ((o.1.block 4 (by omega) (by omega) (by omega)).trans ((z 4 (by omega)).trans (hb.block _ X)))];exact he
  ·have N:=o
   unfold YZ at o
   cases E:Zf res with
   | error a=>rw [E] at o;exact .inr ⟨6,a,o.2,rfl,a,rfl,rfl,o.1⟩
   | ok x=>rw [E] at o N;have:=o.2.1;subst this;exact .inl ⟨rfl,N⟩
 ·have R:∀w',y0 w2.heap.size B2 W w'→y0 w2.heap.size B2 w2 w':=fun w' h=>⟨by rw [h.os,D,y];rfl,by rw [h.tape,D,y];rfl,by rw [h.output,D,y];rfl,by have:=h.size;omega,fun k hk hr hb'=>(h.block k (by omega) hr hb').trans (z k hk)⟩
  rintro e w' (⟨H,rfl,o,J,ab⟩ | ⟨Q,K,H,rfl,⟨rfl,a,rfl,E,hK⟩,J⟩)
  ·rw [I] at J
   refine ⟨H,J,R _ o.1,?_⟩
   unfold YZ at o
   cases E:Zf res with
   | error a=>rw [E] at o;exact absurd o.2 (by simp [Ze])
   | ok x =>
    rw [E] at o;obtain ⟨-,-,a,b,c,U,V,T,l,h1,h2⟩:=o;exact ⟨rfl,a,b,c,U,V,T,l,h1,zM.mono (zM.kept h2 J.size fun k hk _=>ab k (by omega) (by omega)) (by omega)⟩
  ·rw [I] at J
   refine ⟨H,J,R _ hK,?_⟩;rw [E]
theorem V5 (l:List UInt8) (w:World) (ht:Zh w) (hl:ZL w) (he:y3 w) :
  Calls Tryz.prog 73 #[.string (za l),.func (.func 74) #[] #[],.func (.func 75) #[] #[]] w fun e w' =>
   ∃(x:Ex) (at0 err:Nat) (v:Value),e=.returned (.tuple #[v,.int .i64 at0,.int .i64 err])∧zS l x at0 err∧zM w.heap.size w' x v∧Below w.heap.size w w':=by
 obtain ⟨w1,K⟩:∃w1,w1=(((w.alloc (.cells #[.func (.func 74) #[] #[]] 115)).alloc zA).alloc zA).alloc zA:=⟨_,rfl⟩;have aD:w1.heap.size=w.heap.size+1+1+1+1:=by rw [K];simp
 have ah:Below w.heap.size w w1:=by
  rw [K];exact ((((Below.refl w.heap.size w).alloc (Nat.le_refl _) _).alloc (by simp) _).alloc (by simp <;> omega) _).alloc (by simp <;> omega) _
 have m0:w1.heap[w.heap.size]?=some (.cells #[.func (.func 74) #[] #[]] 115 (0,0)):=by
  rw [K,Below.heap_alloc _ _ _ (by simp <;> omega),Below.heap_alloc _ _ _ (by simp <;> omega),Below.heap_alloc _ _ _ (by simp)];exact World.alloc_heap_new _ _
 have m1:w1.heap[w.heap.size+1]?=some zA:=by
  rw [K,Below.heap_alloc _ _ _ (by simp <;> omega),Below.heap_alloc _ _ _ (by simp)]
  have:=World.alloc_heap_new (w.alloc (.cells #[.func (.func 74) #[] #[]] 115)) zA
  simpa using this
 have m2:w1.heap[w.heap.size+1+1]?=some zA:=by
  rw [K,Below.heap_alloc _ _ _ (by simp)]
  have:=World.alloc_heap_new ((w.alloc (.cells #[.func (.func 74) #[] #[]] 115)).alloc zA) zA
  simpa using this
 have m3:w1.heap[w.heap.size+1+1+1]?=some zA:=by
  rw [K]
  have:=World.alloc_heap_new (((w.alloc (.cells #[.func (.func 74) #[] #[]] 115)).alloc zA).alloc zA) zA
  simpa using this
 have cs:=Va l w1 (ht.below ah (Nat.le_refl _));have ao:Hid (w1=(((w.alloc (.cells #[.func (.func 74) #[] #[]] 115)).alloc zA).alloc zA).alloc zA):=K;have ag:Hid (Below w.heap.size w w1):=ah;have HL:Hid (ZL w):=hl;have HE:Hid (y3 w):=he;have HM:Hid (w1.heap[w.heap.size]?=some (.cells #[.func (.func 74) #[] #[]] 115 (0,0))∧w1.heap[w.heap.size+1]?=some zA∧w1.heap[w.heap.size+1+1]?=some zA∧w1.heap[w.heap.size+1+1+1]?=some zA):=⟨m0,m1,m2,m3⟩;clear K ah hl he m0 m1 m2 m3 ht
 go_enter Tryz.func73,Tryz.ntmps73
 go_wp2_with fail
 rw [←ao.out];refine cs.mono ?_;clear cs ao;rintro e w2 ⟨v,rfl,X,U⟩;have G:∀k,k<w1.heap.size→w2.heap[k]?=w1.heap[k]?:=fun k hk=>U.block k hk
 have p0:=(G _ (by omega)).trans HM.out.1
 have p1:=(G _ (by omega)).trans HM.out.2.1
 have p2:=(G _ (by omega)).trans HM.out.2.2.1
 have p3:=(G _ (by omega)).trans HM.out.2.2.2
 have o:Below w.heap.size w w2:=ag.out.trans (U.mono (by omega))
 have aq:Hid (Below w.heap.size w w2):=o;obtain ⟨a0,a1,a2,a3,a4,af⟩:=zr p1;obtain ⟨c0,c1,c2,c3,c4,-⟩:=zr p2;have ax:=U.size
 by_cases herr:(zJ l).2.2≠0
 ·have HI:Hid (zS l yf (zJ l).2.1 (zJ l).2.2):=show zS _ _ _ _ by unfold zS;rw [if_pos herr];exact ⟨rfl,rfl,rfl⟩
  have aa:¬((zJ l).2.2:Int)=0:=by omega
  generalize (zJ l).2.1=A at *;generalize (zJ l).2.2=E at *;have h1:((E:Int)==0)=false:=by rw [beq_eq_false_iff_ne];exact aa
  have h2:((E:Int) != 0)=true:=by simp [bne,h1]
  have h3:decide ((E:Int)=0)=false:=by rw [decide_eq_false_iff_not];exact aa
  have h4:(E==0)=false:=by rw [beq_eq_false_iff_ne];exact herr
  have h5:decide (E=0)=false:=by rw [decide_eq_false_iff_not];exact herr
  have h6:(E != 0)=true:=by simp [bne,h4]
  obtain ⟨z0,z1,z2,z3,z4⟩:=zo p1 (.int .i64 0) (.string ⟨#[]⟩) (.int .i64 0) (.slice none 0 0) (.int .i64 0)
  have an:Below w.heap.size w (set5 w2 (w.heap.size+1) (.int .i64 0) (.string ⟨#[]⟩) (.int .i64 0) (.slice none 0 0) (.int .i64 0)) :=
   ((((o.setCell (p:=⟨w.heap.size+1,0,none⟩) (by simp) _).setCell (p:=⟨w.heap.size+1,1,none⟩) (by simp) _).setCell (p:=⟨w.heap.size+1,2,none⟩) (by simp) _).setCell (p:=⟨w.heap.size+1,3,none⟩) (by simp) _).setCell (p:=⟨w.heap.size+1,4,none⟩) (by simp) _
  have M:Hid (Below w.heap.size w (set5 w2 (w.heap.size+1) (.int .i64 0) (.string ⟨#[]⟩) (.int .i64 0) (.slice none 0 0) (.int .i64 0))):=an;clear an o U X G p0 p1 p2 p3 HM aq HL HE ag;go_wp2
  refine bodyPost_ret (v:=.tuple #[.agg #[.int .i64 0,.string ⟨#[]⟩,.int .i64 0,.slice none 0 0,.int .i64 0],.int .i64 A,.int .i64 E]) (by simp [results,Tryz.results73,go_sem,z0,z1,z2,z3,z4]) rfl ⟨yf,A,E,_,rfl,HI.out,.leaf 0 [] 0 0,M.out⟩
 ·have V:(zJ l).2.2=0:=by simpa using herr
  have hE:=Xw l V;obtain ⟨t0,ay,ap⟩:=hE.cons;obtain ⟨g,I,rfl,hg,av,au,am,Z⟩:∃g I,v=.slice (some ⟨g,0,none⟩) (zJ l).1.length I∧w1.heap.size≤g∧g<w2.heap.size∧(zJ l).1.length≤I∧I≤maxLen∧∀j u,(zO (zJ l).1)[j]?=some u→w2.cell? ⟨g,j,none⟩=some u:=Vz X (by rw [ap];simp)
  have al:=vx l;obtain ⟨f,res,hf,-⟩:=(yY (zJ l).1.length (zJ l).1 (Nat.le_refl _)).1 1;have hp:zd f 1 (zJ l).1=some res:=hf 0;have ca:=VA (zJ l).1 g I w.heap.size (w.heap.size+1+1+1) f w w2 res hE al hp av au am Z o HL.out HE.out (Nat.le_refl _) (by omega) (by omega) p0 p3
  have aB:∀(fn:Fn) (first I:Array Value) (w:World),(Instr.makeFunc fn first I).run Tryz.prog w=.ok (.func fn first I) w:=fun _ _ _ _=>rfl
  have ad:∀x us,res=.ok (x,us)→zl x≤4097:=fun x us h=>by
   subst h
   have:=(xU f).1 _ _ _ _ hp
   omega
  have HI:Hid (∀x at0 err,(match Zf res with | .error a=>x=yf∧at0=a∧err=6 | .ok y=>if 24<zl y then x=yf∧at0=0∧err=7 else x=y∧at0=0∧err=0)→zS l x at0 err):=fun x at0 err h=>by
   unfold zS
   rw [if_neg herr];exact ⟨f,res,hp,h⟩
  have N:Hid (∀k,k≤w.heap.size+1+1→∀Y z,Below (w2.heap.size+1+1) Y z→y0 w2.heap.size (w.heap.size+1+1+1) w2 Y→z.heap[k]?=w2.heap[k]?):=fun k hk Y z h5 h6 =>
   (h5.block k (by omega)).trans (h6.block k (by omega) (by omega) (by omega))
  have ak:Hid (∀Y z,Below (w2.heap.size+1+1) Y z→y0 w2.heap.size (w.heap.size+1+1+1) w2 Y→Below w.heap.size w z):=fun Y z h5 h6 =>
   ⟨h5.os.trans (h6.os.trans o.os),h5.tape.trans (h6.tape.trans o.tape),h5.output.trans (h6.output.trans o.output),by have:=h5.size;have:=h6.size;have:=o.size;omega,fun k hk=>(h5.block k (by omega)).trans ((h6.block k (by omega) (by omega) (by omega)).trans (o.block k hk))⟩
  have ab:Hid (w2.heap[w.heap.size+1]?=some zA∧w2.heap[w.heap.size+1+1]?=some zA):=⟨p1,p2⟩;rw [V];generalize (zJ l).2.1=A at *;clear o U X G p0 p1 p2 p3 HM aq HL HE ag Z hp hf hE ap a0 a1 a2 a3 a4 af c0 c1 c2 c3 c4;go_wp2_with fail
  refine ca.mono ?_;clear ca;rintro e z ⟨Y,L,S,H⟩;have q1:=(N.out (w.heap.size+1) (by omega) Y z L S).trans ab.out.1
  have q2:=(N.out (w.heap.size+1+1) (by omega) Y z L S).trans ab.out.2
  have R:=ak.out Y z L S;obtain ⟨a0,a1,a2,a3,a4,af⟩:=zr q1;obtain ⟨c0,c1,c2,c3,c4,-⟩:=zr q2
  have O:∀W,Below w.heap.size w W→∀v0 v1 v2 v3 v4,Below w.heap.size w (set5 W (w.heap.size+1) v0 v1 v2 v3 v4):=fun W hW v0 v1 v2 v3 v4 =>
   ((((hW.setCell (p:=⟨w.heap.size+1,0,none⟩) (by simp) _).setCell (p:=⟨w.heap.size+1,1,none⟩) (by simp) _).setCell (p:=⟨w.heap.size+1,2,none⟩) (by simp) _).setCell (p:=⟨w.heap.size+1,3,none⟩) (by simp) _).setCell (p:=⟨w.heap.size+1,4,none⟩) (by simp) _
  cases hR:Zf res with
  | error a =>
   rw [hR] at H;obtain rfl:=H;have T:Hid (zS l yf a 6):=HI.out yf a 6 (by rw [hR];exact ⟨rfl,rfl,rfl⟩)
   obtain ⟨z0,z1,z2,z3,z4⟩:=zo q1 (.int .i64 0) (.string ⟨#[]⟩) (.int .i64 0) (.slice none 0 0) (.int .i64 0);have M:Hid (Below w.heap.size w (set5 z (w.heap.size+1) (.int .i64 0) (.string ⟨#[]⟩) (.int .i64 0) (.slice none 0 0) (.int .i64 0))):=O z R _ _ _ _ _;clear O R q1 q2 L S HI N ak ab;go_wp2
   refine bodyPost_ret (v:=.tuple #[.agg #[.int .i64 0,.string ⟨#[]⟩,.int .i64 0,.slice none 0 0,.int .i64 0],.int .i64 a,.int .i64 6]) (by simp [results,Tryz.results73,go_sem,z0,z1,z2,z3,z4]) rfl ⟨yf,a,6,_,rfl,T.out,.leaf 0 [] 0 0,M.out⟩
  | ok x =>
   rw [hR] at H;obtain ⟨rfl,xa,xb,xc,x0,x1,x2,xl,ar,hx⟩:=H
   have aC:zl x≤4097:=by
    rcases res with a | ⟨y,us⟩
    ·cases hR
    ·unfold Zf at hR
     simp only at hR
     split at hR
     ·cases hR;exact ad _ us rfl
     ·cases hR
   have aA:=L.size;have az:=S.size;have qx:=(L.block (w.heap.size+1+1+1) (by omega)).trans ar
   obtain ⟨e0,e1,e2,e3,e4,-⟩:=zr qx;have cd:=YL (fun k=>w2.heap.size+1+1≤k) (zl x) z x _ z (Nat.le_refl _) (by omega) (Below.refl _ _) hx
   have HX:Hid (zM (w2.heap.size+1+1) z x (.agg #[.int .i64 xa,.string xb,.int .i64 xc,.slice x0 x1 x2,.int .i64 xl])):=hx;have HQ:Hid (z.heap[w.heap.size+1]?=some zA∧z.heap[w.heap.size+1+1]?=some zA∧z.heap[w.heap.size+1+1+1]?=some (.cells #[.int .i64 xa,.string xb,.int .i64 xc,.slice x0 x1 x2,.int .i64 xl] 90 (0,0))):=⟨q1,q2,qx⟩;have ae:Hid (Below w.heap.size w z):=R;have HS:Hid (∀W,Below w.heap.size w W→∀v0 v1 v2 v3 v4,Below w.heap.size w (set5 W (w.heap.size+1) v0 v1 v2 v3 v4)):=O;have T:Hid (∀y at0 err,(if 24<zl x then y=yf∧at0=0∧err=7 else y=x∧at0=0∧err=0)→zS l y at0 err):=fun y at0 err h=>HI.out y at0 err (by rw [hR];exact h)
   generalize hD:zl x=D at *;clear O R q1 q2 qx L S HI N ak ab hx ar ad;go_wp2_with fail
   refine cd.mono ?_;clear cd a0 a1 a2 a3 a4 af c0 c1 c2 c3 c4 e0 e1 e2 e3 e4;rintro e w7 ⟨rfl,J⟩;have r1:=(J.block _ (by omega)).trans HQ.out.1
   have r2:=(J.block _ (by omega)).trans HQ.out.2.1
   have r3:=(J.block _ (by omega)).trans HQ.out.2.2
   have Q:Below w.heap.size w w7:=ae.out.trans (J.mono (by omega))
   have aj:zM (w2.heap.size+1+1) w7 x (.agg #[.int .i64 xa,.string xb,.int .i64 xc,.slice x0 x1 x2,.int .i64 xl]):=zM.kept HX.out J.size fun k _ hlt=>J.block k hlt
   obtain ⟨a0,a1,a2,a3,a4,af⟩:=zr r1
   by_cases hdeep:24<D
   ·obtain ⟨c0,c1,c2,c3,c4,-⟩:=zr r2
    obtain ⟨z0,z1,z2,z3,z4⟩:=zo r1 (.int .i64 0) (.string ⟨#[]⟩) (.int .i64 0) (.slice none 0 0) (.int .i64 0);have ai:Hid (zS l yf 0 7):=T.out yf 0 7 (by rw [if_pos hdeep];exact ⟨rfl,rfl,rfl⟩)
    have M:Hid (Below w.heap.size w (set5 w7 (w.heap.size+1) (.int .i64 0) (.string ⟨#[]⟩) (.int .i64 0) (.slice none 0 0) (.int .i64 0))):=HS.out w7 Q _ _ _ _ _;have h1:(24:Int)<(D:Int):=by omega
    clear Q aj r1 r2 r3 J HQ HX ae HS T;go_wp2
    refine bodyPost_ret (v:=.tuple #[.agg #[.int .i64 0,.string ⟨#[]⟩,.int .i64 0,.slice none 0 0,.int .i64 0],.int .i64 0,.int .i64 7]) (by simp [results,Tryz.results73,go_sem,z0,z1,z2,z3,z4]) rfl ⟨yf,0,7,_,rfl,ai.out,.leaf 0 [] 0 0,M.out⟩
   ·obtain ⟨c0,c1,c2,c3,c4,-⟩:=zr r3
    obtain ⟨z0,z1,z2,z3,z4⟩:=zo r1 (.int .i64 xa) (.string xb) (.int .i64 xc) (.slice x0 x1 x2) (.int .i64 xl);have ai:Hid (zS l x 0 0):=T.out x 0 0 (by rw [if_neg hdeep];exact ⟨rfl,rfl,rfl⟩)
    have M:Hid (Below w.heap.size w (set5 w7 (w.heap.size+1) (.int .i64 xa) (.string xb) (.int .i64 xc) (.slice x0 x1 x2) (.int .i64 xl))):=HS.out w7 Q _ _ _ _ _;have aw:Hid (zM w.heap.size (set5 w7 (w.heap.size+1) (.int .i64 xa) (.string xb) (.int .i64 xc) (.slice x0 x1 x2) (.int .i64 xl)) x (.agg #[.int .i64 xa,.string xb,.int .i64 xc,.slice x0 x1 x2,.int .i64 xl])):=zM.mono (zM.kept aj (w':=set5 w7 (w.heap.size+1) (.int .i64 xa) (.string xb) (.int .i64 xc) (.slice x0 x1 x2) (.int .i64 xl)) (by simp) fun k hk _=>zg _ _ _ _ _ _ _ (by omega)) (by omega)
    have h1:¬(24:Int)<(D:Int):=by omega
    clear Q aj r1 r2 r3 J HQ HX ae HS T;go_wp2
    refine bodyPost_ret (v:=.tuple #[.agg #[.int .i64 xa,.string xb,.int .i64 xc,.slice x0 x1 x2,.int .i64 xl],.int .i64 0,.int .i64 0]) (by simp [results,Tryz.results73,go_sem,z0,z1,z2,z3,z4]) rfl ⟨x,0,0,_,rfl,ai.out,aw.out,M.out⟩
end Go.Proofs.YtmbofhpmockmbaaGreatDoor
