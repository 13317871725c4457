import Derived.Test.YtmbofhpmockmbaaGreatDoorMC20
import Derived.Test.YtmbofhpmockmbaaGreatDoorMC21
import Derived.Test.YtmbofhpmockmbaaGreatDoorMC4
namespace Go.Proofs.YtmbofhpmockmbaaGreatDoor
open Go.RowKit Go.Shelf
set_option maxHeartbeats 16000000
set_option maxRecDepth 100000
abbrev Z5:Ex:=.mk 0 [] 0 [] 0
def zT (l:List UInt8) (x:Ex) (at0 err:Nat):Prop :=
 if (zp l).2.2≠0 then x=Z5∧at0=(zp l).2.1∧err=(zp l).2.2 else
 ∃f res,zh f 1 (zp l).1=some res∧match Zx res with
  | .error a=>x=Z5∧at0=a∧err=6
  | .ok y=>if 24<depthE y then x=Z5∧at0=0∧err=7 else x=y∧at0=0∧err=0
theorem Vi (l:List UInt8):∀(f line a:Nat),(scanS l f line a).1.length≤f
 | 0,_,_=>by simp [scanS]
 | f+1,line,a=>by
  have e:=Vi l f (Zc l line a) (zn l a+(zv l a).sz);rw [scanS]
  split
  ·simp
  ·split
   ·simp
   ·split
    ·simp
    ·simp only [List.length_cons];omega
theorem Vj (l:List UInt8):(zp l).1.length≤4097:=by
 unfold zp
 split
 ·simp
 ·have:=Vi l (l.length+1) 1 0
  omega
theorem U1 {w:World} {B e sz n:Nat} {v:Value} {xs:List Value} (h:w.ownsRow B e sz v n xs) (hn:1≤n):∃g o,v=.slice (some ⟨g,0,none⟩) n o∧B≤g∧g<w.heap.size∧n≤o∧o≤maxLen∧∀j u,xs[j]?=some u→w.cell? ⟨g,j,none⟩=some u:=by
 obtain ⟨g,o,rfl,I,E,A,D⟩:=qT h hn;refine ⟨g,o,rfl,I,E,A,?_,D⟩;rcases h.2 with ⟨y,_⟩ | ⟨J,z,G,y,_,_,_,H,_⟩
 ·cases y
 ·cases y;exact H
abbrev rdW (w:World) (v:Value):World:=(w.alloc (.cells #[v] 147)).alloc (.cells #[.pointer (some ⟨w.heap.size,0,none⟩)] 117)
theorem zar (ts:List Tk) (g cap B0 B2 f:Nat) (w0 w2:World) (res:PR Ex) (hE:zt ts) (hlen:ts.length≤4097) (hp:zh f 1 ts=some res) (hgl:g<w2.heap.size) (hcap:ts.length≤cap) (hmax:cap≤maxLen) (hcell:∀j u,(zA ts)[j]?=some u→w2.cell? ⟨g,j,none⟩=some u)
  (hb:Below w0.heap.size w0 w2) (hl:yL w0) (he:Xp w0) (hB0:w0.heap.size≤B0) (hB2:w0.heap.size≤B2) (hB2g:B2≠g)
  (b0:w2.heap[B0]?=some (.cells #[.func (.func 74) #[] #[]] 115 (0,0))) (b2:w2.heap[B2]?=some zL) :
  Calls Tryz.prog 95 #[.func (.func 96) #[] #[.pointer (some ⟨B0,0,none⟩),.pointer (some ⟨w2.heap.size+1,0,none⟩),.pointer (some ⟨B2,0,none⟩)]] (rdW w2 (.slice (some ⟨g,0,none⟩) ts.length cap)) fun e w' =>
   ∃I,Below (w2.heap.size+1+1) I w'∧Xk w2.heap.size B2 w2 I∧match Zx res with
    | .error a=>e=.returned (.tuple #[.int .i64 a,.int .i64 6])
    | .ok x=>e=.returned (.tuple #[.int .i64 0,.int .i64 0])∧∃(a:Int) (b:ByteArray) (c:Int) (V:Option Addr) (T U:Nat) (l:Int),I.heap[B2]?=some (.cells #[.int .i64 a,.string b,.int .i64 c,.slice V T U,.int .i64 l] 90 (0,0))∧zO (w2.heap.size+1+1) w' x (.agg #[.int .i64 a,.string b,.int .i64 c,.slice V T U,.int .i64 l]):=by
 obtain ⟨R,A,rfl⟩:=hE.cons;have hs:w0.heap.size≤w2.heap.size:=hb.size;have ad:5<w0.heap.size:=World.block_lt_of_cell? w0 _ (hl 0 _ rfl);have X:4<w0.heap.size:=World.block_lt_of_cell? w0 _ he;have L:B0<w2.heap.size:=(Array.getElem?_eq_some_iff.1 b0).1;have N:B2<w2.heap.size:=(Array.getElem?_eq_some_iff.1 b2).1;obtain ⟨w3,y⟩:∃w3,w3=rdW w2 (.slice (some ⟨g,0,none⟩) (R::A).length cap):=⟨_,rfl⟩;have E:w3.heap.size=w2.heap.size+1+1:=by rw [y];simp
 obtain ⟨W,D⟩:∃W,W=za5 w3:=⟨_,rfl⟩;have ae:W.heap.size=w2.heap.size+1+1+1+1:=by rw [D];simp [E]
 have G:∀k,k<w3.heap.size→W.heap[k]?=w3.heap[k]?:=fun k hk=>by rw [D,Below.heap_alloc _ _ _ (by simp;omega),Below.heap_alloc _ _ _ hk]
 have Y:∀k,k<w2.heap.size→w3.heap[k]?=w2.heap[k]?:=fun k hk=>by rw [y,Below.heap_alloc _ _ _ (by simp;omega),Below.heap_alloc _ _ _ hk]
 have z:∀k,k<w2.heap.size→W.heap[k]?=w2.heap[k]?:=fun k hk=>(G k (by omega)).trans (Y k hk)
 have pr:W.heap[w2.heap.size]?=some (.cells #[.slice (some ⟨g,0,none⟩) (R::A).length cap] 147 (0,0)):=by
  rw [G _ (by omega),y,Below.heap_alloc _ _ _ (by simp)];exact World.alloc_heap_new _ _
 have p1:W.heap[w2.heap.size+1]?=some (.cells #[.pointer (some ⟨w2.heap.size,0,none⟩)] 117 (0,0)):=by
  rw [G _ (by omega),y]
  have:=World.alloc_heap_new (w2.alloc (.cells #[.slice (some ⟨g,0,none⟩) (R::A).length cap] 147)) (.cells #[.pointer (some ⟨w2.heap.size,0,none⟩)] 117)
  simpa using this
 have pa:W.heap[w3.heap.size]?=some (.cells #[.int .i64 0] 3 (0,0)):=by
  rw [D,Below.heap_alloc _ _ _ (by simp)];exact World.alloc_heap_new _ _
 have pb:W.heap[w3.heap.size+1]?=some (.cells #[.int .i64 0] 25 (0,0)):=by
  rw [D]
  have:=World.alloc_heap_new (w3.alloc (.cells #[.int .i64 0] 3)) (.cells #[.int .i64 0] 25)
  simpa using this
 have ab:zk w2.heap.size g 0 cap (R::A) W :=
  { cell:=by simp only [World.cell?,pr];rfl
    soft:=by simp only [World.frozen?,pr];simp
    hcap:=hcap
    hmax:=hmax
    other:=by omega
    toks:=fun j u hj=>by rw [Nat.zero_add,World.cell?_of_block (z g hgl)];exact hcell j u hj
    few:=by omega }
 have O:yL W:=fun j v hj=>by
  rw [World.cell?_of_block ((z 5 (by omega)).trans (hb.block _ ad))];exact hl j v hj
 have aa:=zaU w2.heap.size g 0 cap B0 (w2.heap.size+1) B2 f _ _ (R::A) W res ab hE O (by omega) hp ((z _ L).trans b0) p1 ((z _ N).trans b2) (by omega) (by omega) hB2g (by omega)
 rw [←y];refine (vD 96 #[.pointer (some ⟨B0,0,none⟩),.pointer (some ⟨w2.heap.size+1,0,none⟩),.pointer (some ⟨B2,0,none⟩)] w3 (fun w'=>Vr w2.heap.size B2 W (Zx res) (.returned (.tuple #[])) w') (fun Q at0 w'=>Q=6∧∃a:Nat,at0=(a:Int)∧Zx res=.error a∧Xk w2.heap.size B2 W w') (fun _=>rfl) ?_).mono ?_
 ·rw [←D]
  refine aa.mono fun e w' o=>⟨(o.1.block _ (by omega) (by omega) (by omega)).trans pa,(o.1.block _ (by omega) (by omega) (by omega)).trans pb,?_,?_⟩
  ·unfold Xp
   rw [World.cell?_of_block ((o.1.block 4 (by omega) (by omega) (by omega)).trans ((z 4 (by omega)).trans (hb.block _ X)))];exact he
  ·have K:=o
   unfold Vr at o
   cases H:Zx res with
   | error a=>rw [H] at o;exact .inr ⟨6,a,o.2,rfl,a,rfl,rfl,o.1⟩
   | ok x=>rw [H] at o K;have:=o.2.1;subst this;exact .inl ⟨rfl,K⟩
 ·have M:∀w',Xk w2.heap.size B2 W w'→Xk w2.heap.size B2 w2 w':=fun w' h=>⟨by rw [h.os,D,y];rfl,by rw [h.tape,D,y];rfl,by rw [h.output,D,y];rfl,by have:=h.size;omega,fun k hk hr hb'=>(h.block k (by omega) hr hb').trans (z k hk)⟩
  rintro e w' (⟨I,rfl,o,J,Z⟩ | ⟨Q,at0,I,rfl,⟨rfl,a,rfl,H,hK⟩,J⟩)
  ·rw [E] at J
   refine ⟨I,J,M _ o.1,?_⟩
   unfold Vr at o
   cases H:Zx res with
   | error a=>rw [H] at o;exact absurd o.2 (by simp [ZU])
   | ok x =>
    rw [H] at o;obtain ⟨-,-,a,b,c,V,T,U,l,h1,h2⟩:=o;exact ⟨rfl,a,b,c,V,T,U,l,h1,zO.mono (zO.kept h2 J.size fun k hk _=>Z k (by omega) (by omega)) (by omega)⟩
  ·rw [E] at J
   refine ⟨I,J,M _ hK,?_⟩;rw [H]
theorem zba (l:List UInt8) (w:World) (ht:Z4 w) (hl:yL w) (he:Xp w) :
  Calls Tryz.prog 73 #[.string (za l),.func (.func 74) #[] #[],.func (.func 75) #[] #[]] w fun e w' =>
   ∃(x:Ex) (at0 err:Nat) (v:Value),e=.returned (.tuple #[v,.int .i64 at0,.int .i64 err])∧zT l x at0 err∧zO w.heap.size w' x v∧Below w.heap.size w w':=by
 obtain ⟨w1,K⟩:∃w1,w1=(((w.alloc (.cells #[.func (.func 74) #[] #[]] 115)).alloc zL).alloc zL).alloc zL:=⟨_,rfl⟩;have az:w1.heap.size=w.heap.size+1+1+1+1:=by rw [K];simp
 have ak:Below w.heap.size w w1:=by
  rw [K];exact ((((Below.refl w.heap.size w).alloc (Nat.le_refl _) _).alloc (by simp) _).alloc (by simp <;> omega) _).alloc (by simp <;> omega) _
 have m0:w1.heap[w.heap.size]?=some (.cells #[.func (.func 74) #[] #[]] 115 (0,0)):=by
  rw [K,Below.heap_alloc _ _ _ (by simp <;> omega),Below.heap_alloc _ _ _ (by simp <;> omega),Below.heap_alloc _ _ _ (by simp)];exact World.alloc_heap_new _ _
 have m1:w1.heap[w.heap.size+1]?=some zL:=by
  rw [K,Below.heap_alloc _ _ _ (by simp <;> omega),Below.heap_alloc _ _ _ (by simp)]
  have:=World.alloc_heap_new (w.alloc (.cells #[.func (.func 74) #[] #[]] 115)) zL
  simpa using this
 have m2:w1.heap[w.heap.size+1+1]?=some zL:=by
  rw [K,Below.heap_alloc _ _ _ (by simp)]
  have:=World.alloc_heap_new ((w.alloc (.cells #[.func (.func 74) #[] #[]] 115)).alloc zL) zL
  simpa using this
 have m3:w1.heap[w.heap.size+1+1+1]?=some zL:=by
  rw [K]
  have:=World.alloc_heap_new (((w.alloc (.cells #[.func (.func 74) #[] #[]] 115)).alloc zL).alloc zL) zL
  simpa using this
 have cs:=QD l w1 (ht.below ak (Nat.le_refl _));have ar:Hid (w1=(((w.alloc (.cells #[.func (.func 74) #[] #[]] 115)).alloc zL).alloc zL).alloc zL):=K;have aj:Hid (Below w.heap.size w w1):=ak;have HL:Hid (yL w):=hl;have HE:Hid (Xp w):=he;have HM:Hid (w1.heap[w.heap.size]?=some (.cells #[.func (.func 74) #[] #[]] 115 (0,0))∧w1.heap[w.heap.size+1]?=some zL∧w1.heap[w.heap.size+1+1]?=some zL∧w1.heap[w.heap.size+1+1+1]?=some zL):=⟨m0,m1,m2,m3⟩;clear K ak hl he m0 m1 m2 m3 ht
 go_enter Tryz.func73,Tryz.ntmps73
 go_wp2_with fail
 rw [←ar.out];refine cs.mono ?_;clear cs ar;rintro e w2 ⟨v,rfl,X,Y⟩;have G:∀k,k<w1.heap.size→w2.heap[k]?=w1.heap[k]?:=fun k hk=>Y.block k hk
 have p0:=(G _ (by omega)).trans HM.out.1
 have p1:=(G _ (by omega)).trans HM.out.2.1
 have p2:=(G _ (by omega)).trans HM.out.2.2.1
 have p3:=(G _ (by omega)).trans HM.out.2.2.2
 have o:Below w.heap.size w w2:=aj.out.trans (Y.mono (by omega))
 have ao:Hid (Below w.heap.size w w2):=o;obtain ⟨a0,a1,a2,a3,a4,af⟩:=ze p1;obtain ⟨c0,c1,c2,c3,c4,-⟩:=ze p2;have aB:=Y.size
 by_cases herr:(zp l).2.2≠0
 ·have HI:Hid (zT l Z5 (zp l).2.1 (zp l).2.2):=show zT _ _ _ _ by unfold zT;rw [if_pos herr];exact ⟨rfl,rfl,rfl⟩
  have V:¬((zp l).2.2:Int)=0:=by omega
  generalize (zp l).2.1=A at *;generalize (zp l).2.2=E at *;have h1:((E:Int)==0)=false:=by rw [beq_eq_false_iff_ne];exact V
  have h2:((E:Int) != 0)=true:=by simp [bne,h1]
  have h3:decide ((E:Int)=0)=false:=by rw [decide_eq_false_iff_not];exact V
  have h4:(E==0)=false:=by rw [beq_eq_false_iff_ne];exact herr
  have h5:decide (E=0)=false:=by rw [decide_eq_false_iff_not];exact herr
  have h6:(E != 0)=true:=by simp [bne,h4]
  obtain ⟨z0,z1,z2,z3,z4⟩:=zj p1 (.int .i64 0) (.string ⟨#[]⟩) (.int .i64 0) (.slice none 0 0) (.int .i64 0)
  have am:Below w.heap.size w (set5 w2 (w.heap.size+1) (.int .i64 0) (.string ⟨#[]⟩) (.int .i64 0) (.slice none 0 0) (.int .i64 0)) :=
   ((((o.setCell (p:=⟨w.heap.size+1,0,none⟩) (by simp) _).setCell (p:=⟨w.heap.size+1,1,none⟩) (by simp) _).setCell (p:=⟨w.heap.size+1,2,none⟩) (by simp) _).setCell (p:=⟨w.heap.size+1,3,none⟩) (by simp) _).setCell (p:=⟨w.heap.size+1,4,none⟩) (by simp) _
  have M:Hid (Below w.heap.size w (set5 w2 (w.heap.size+1) (.int .i64 0) (.string ⟨#[]⟩) (.int .i64 0) (.slice none 0 0) (.int .i64 0))):=am;clear am o Y X G p0 p1 p2 p3 HM ao HL HE aj;go_wp2
  refine bodyPost_ret (v:=.tuple #[.agg #[.int .i64 0,.string ⟨#[]⟩,.int .i64 0,.slice none 0 0,.int .i64 0],.int .i64 A,.int .i64 E]) (by simp [results,Tryz.results73,go_sem,z0,z1,z2,z3,z4]) rfl ⟨Z5,A,E,_,rfl,HI.out,.leaf 0 [] 0 0,M.out⟩
 ·have aa:(zp l).2.2=0:=by simpa using herr
  have hE:=XY l aa;obtain ⟨t0,aA,au⟩:=hE.cons;obtain ⟨g,J,rfl,hg,aw,aq,an,Z⟩:∃g J,v=.slice (some ⟨g,0,none⟩) (zp l).1.length J∧w1.heap.size≤g∧g<w2.heap.size∧(zp l).1.length≤J∧J≤maxLen∧∀j u,(zA (zp l).1)[j]?=some u→w2.cell? ⟨g,j,none⟩=some u:=U1 X (by rw [au];simp)
  have al:=Vj l;obtain ⟨f,res,hf,-⟩:=(YX (zp l).1.length (zp l).1 (Nat.le_refl _)).1 1;have hp:zh f 1 (zp l).1=some res:=hf 0;have ca:=zar (zp l).1 g J w.heap.size (w.heap.size+1+1+1) f w w2 res hE al hp aw aq an Z o HL.out HE.out (Nat.le_refl _) (by omega) (by omega) p0 p3
  have aD:∀(fn:Fn) (first J:Array Value) (w:World),(Instr.makeFunc fn first J).run Tryz.prog w=.ok (.func fn first J) w:=fun _ _ _ _=>rfl
  have ad:∀x us,res=.ok (x,us)→depthE x≤4097:=fun x us h=>by
   subst h
   have:=(Xl f).1 _ _ _ _ hp
   omega
  have HI:Hid (∀x at0 err,(match Zx res with | .error a=>x=Z5∧at0=a∧err=6 | .ok y=>if 24<depthE y then x=Z5∧at0=0∧err=7 else x=y∧at0=0∧err=0)→zT l x at0 err):=fun x at0 err h=>by
   unfold zT
   rw [if_neg herr];exact ⟨f,res,hp,h⟩
  have Q:Hid (∀k,k≤w.heap.size+1+1→∀w5 z,Below (w2.heap.size+1+1) w5 z→Xk w2.heap.size (w.heap.size+1+1+1) w2 w5→z.heap[k]?=w2.heap[k]?):=fun k hk w5 z h5 h6 =>
   (h5.block k (by omega)).trans (h6.block k (by omega) (by omega) (by omega))
  have ag:Hid (∀w5 z,Below (w2.heap.size+1+1) w5 z→Xk w2.heap.size (w.heap.size+1+1+1) w2 w5→Below w.heap.size w z):=fun w5 z h5 h6 =>
   ⟨h5.os.trans (h6.os.trans o.os),h5.tape.trans (h6.tape.trans o.tape),h5.output.trans (h6.output.trans o.output),by have:=h5.size;have:=h6.size;have:=o.size;omega,fun k hk=>(h5.block k (by omega)).trans ((h6.block k (by omega) (by omega) (by omega)).trans (o.block k hk))⟩
  have ab:Hid (w2.heap[w.heap.size+1]?=some zL∧w2.heap[w.heap.size+1+1]?=some zL):=⟨p1,p2⟩;rw [aa];generalize (zp l).2.1=A at *;clear o Y X G p0 p1 p2 p3 HM ao HL HE aj Z hp hf hE au a0 a1 a2 a3 a4 af c0 c1 c2 c3 c4;go_wp2_with fail
  refine ca.mono ?_;clear ca;rintro e z ⟨w5,L,U,H⟩;have q1:=(Q.out (w.heap.size+1) (by omega) w5 z L U).trans ab.out.1
  have q2:=(Q.out (w.heap.size+1+1) (by omega) w5 z L U).trans ab.out.2
  have N:=ag.out w5 z L U;obtain ⟨a0,a1,a2,a3,a4,af⟩:=ze q1;obtain ⟨c0,c1,c2,c3,c4,-⟩:=ze q2
  have R:∀W,Below w.heap.size w W→∀v0 v1 v2 v3 v4,Below w.heap.size w (set5 W (w.heap.size+1) v0 v1 v2 v3 v4):=fun W hW v0 v1 v2 v3 v4 =>
   ((((hW.setCell (p:=⟨w.heap.size+1,0,none⟩) (by simp) _).setCell (p:=⟨w.heap.size+1,1,none⟩) (by simp) _).setCell (p:=⟨w.heap.size+1,2,none⟩) (by simp) _).setCell (p:=⟨w.heap.size+1,3,none⟩) (by simp) _).setCell (p:=⟨w.heap.size+1,4,none⟩) (by simp) _
  cases hR:Zx res with
  | error a =>
   rw [hR] at H;obtain rfl:=H;have T:Hid (zT l Z5 a 6):=HI.out Z5 a 6 (by rw [hR];exact ⟨rfl,rfl,rfl⟩)
   obtain ⟨z0,z1,z2,z3,z4⟩:=zj q1 (.int .i64 0) (.string ⟨#[]⟩) (.int .i64 0) (.slice none 0 0) (.int .i64 0);have M:Hid (Below w.heap.size w (set5 z (w.heap.size+1) (.int .i64 0) (.string ⟨#[]⟩) (.int .i64 0) (.slice none 0 0) (.int .i64 0))):=R z N _ _ _ _ _;clear R N q1 q2 L U HI Q ag ab;go_wp2
   refine bodyPost_ret (v:=.tuple #[.agg #[.int .i64 0,.string ⟨#[]⟩,.int .i64 0,.slice none 0 0,.int .i64 0],.int .i64 a,.int .i64 6]) (by simp [results,Tryz.results73,go_sem,z0,z1,z2,z3,z4]) rfl ⟨Z5,a,6,_,rfl,T.out,.leaf 0 [] 0 0,M.out⟩
  | ok x =>
   rw [hR] at H;obtain ⟨rfl,xa,xb,xc,x0,x1,x2,xl,ap,hx⟩:=H
   have ay:depthE x≤4097:=by
    rcases res with a | ⟨y,us⟩
    ·cases hR
    ·unfold Zx at hR
     simp only at hR
     split at hR
     ·cases hR;exact ad _ us rfl
     ·cases hR
   have aC:=L.size;have ax:=U.size;have qx:=(L.block (w.heap.size+1+1+1) (by omega)).trans ap
   obtain ⟨e0,e1,e2,e3,e4,-⟩:=ze qx;have cd:=vM (fun k=>w2.heap.size+1+1≤k) (depthE x) z x _ z (Nat.le_refl _) (by omega) (Below.refl _ _) hx
   have HX:Hid (zO (w2.heap.size+1+1) z x (.agg #[.int .i64 xa,.string xb,.int .i64 xc,.slice x0 x1 x2,.int .i64 xl])):=hx;have HQ:Hid (z.heap[w.heap.size+1]?=some zL∧z.heap[w.heap.size+1+1]?=some zL∧z.heap[w.heap.size+1+1+1]?=some (.cells #[.int .i64 xa,.string xb,.int .i64 xc,.slice x0 x1 x2,.int .i64 xl] 90 (0,0))):=⟨q1,q2,qx⟩;have ah:Hid (Below w.heap.size w z):=N;have HS:Hid (∀W,Below w.heap.size w W→∀v0 v1 v2 v3 v4,Below w.heap.size w (set5 W (w.heap.size+1) v0 v1 v2 v3 v4)):=R;have T:Hid (∀y at0 err,(if 24<depthE x then y=Z5∧at0=0∧err=7 else y=x∧at0=0∧err=0)→zT l y at0 err):=fun y at0 err h=>HI.out y at0 err (by rw [hR];exact h)
   generalize hD:depthE x=D at *;clear R N q1 q2 qx L U HI Q ag ab hx ap ad;go_wp2_with fail
   refine cd.mono ?_;clear cd a0 a1 a2 a3 a4 af c0 c1 c2 c3 c4 e0 e1 e2 e3 e4;rintro e w7 ⟨rfl,I⟩;have r1:=(I.block _ (by omega)).trans HQ.out.1
   have r2:=(I.block _ (by omega)).trans HQ.out.2.1
   have r3:=(I.block _ (by omega)).trans HQ.out.2.2
   have O:Below w.heap.size w w7:=ah.out.trans (I.mono (by omega))
   have ai:zO (w2.heap.size+1+1) w7 x (.agg #[.int .i64 xa,.string xb,.int .i64 xc,.slice x0 x1 x2,.int .i64 xl]):=zO.kept HX.out I.size fun k _ hlt=>I.block k hlt
   obtain ⟨a0,a1,a2,a3,a4,af⟩:=ze r1
   by_cases hdeep:24<D
   ·obtain ⟨c0,c1,c2,c3,c4,-⟩:=ze r2
    obtain ⟨z0,z1,z2,z3,z4⟩:=zj r1 (.int .i64 0) (.string ⟨#[]⟩) (.int .i64 0) (.slice none 0 0) (.int .i64 0);have ae:Hid (zT l Z5 0 7):=T.out Z5 0 7 (by rw [if_pos hdeep];exact ⟨rfl,rfl,rfl⟩)
    have M:Hid (Below w.heap.size w (set5 w7 (w.heap.size+1) (.int .i64 0) (.string ⟨#[]⟩) (.int .i64 0) (.slice none 0 0) (.int .i64 0))):=HS.out w7 O _ _ _ _ _;have h1:(24:Int)<(D:Int):=by omega
    clear O ai r1 r2 r3 I HQ HX ah HS T;go_wp2
    refine bodyPost_ret (v:=.tuple #[.agg #[.int .i64 0,.string ⟨#[]⟩,.int .i64 0,.slice none 0 0,.int .i64 0],.int .i64 0,.int .i64 7]) (by simp [results,Tryz.results73,go_sem,z0,z1,z2,z3,z4]) rfl ⟨Z5,0,7,_,rfl,ae.out,.leaf 0 [] 0 0,M.out⟩
   ·obtain ⟨c0,c1,c2,c3,c4,-⟩:=ze r3
    obtain ⟨z0,z1,z2,z3,z4⟩:=zj r1 (.int .i64 xa) (.string xb) (.int .i64 xc) (.slice x0 x1 x2) (.int .i64 xl);have ae:Hid (zT l x 0 0):=T.out x 0 0 (by rw [if_neg hdeep];exact ⟨rfl,rfl,rfl⟩)
    have M:Hid (Below w.heap.size w (set5 w7 (w.heap.size+1) (.int .i64 xa) (.string xb) (.int .i64 xc) (.slice x0 x1 x2) (.int .i64 xl))):=HS.out w7 O _ _ _ _ _;have av:Hid (zO w.heap.size (set5 w7 (w.heap.size+1) (.int .i64 xa) (.string xb) (.int .i64 xc) (.slice x0 x1 x2) (.int .i64 xl)) x (.agg #[.int .i64 xa,.string xb,.int .i64 xc,.slice x0 x1 x2,.int .i64 xl])):=zO.mono (zO.kept ai (w':=set5 w7 (w.heap.size+1) (.int .i64 xa) (.string xb) (.int .i64 xc) (.slice x0 x1 x2) (.int .i64 xl)) (by simp) fun k hk _=>zi _ _ _ _ _ _ _ (by omega)) (by omega)
    have h1:¬(24:Int)<(D:Int):=by omega
    clear O ai r1 r2 r3 I HQ HX ah HS T;go_wp2
    refine bodyPost_ret (v:=.tuple #[.agg #[.int .i64 xa,.string xb,.int .i64 xc,.slice x0 x1 x2,.int .i64 xl],.int .i64 0,.int .i64 0]) (by simp [results,Tryz.results73,go_sem,z0,z1,z2,z3,z4]) rfl ⟨x,0,0,_,rfl,ae.out,av.out,M.out⟩
end Go.Proofs.YtmbofhpmockmbaaGreatDoor
