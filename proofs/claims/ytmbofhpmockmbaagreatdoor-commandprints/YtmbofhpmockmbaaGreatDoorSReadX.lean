import Derived.Test.YtmbofhpmockmbaaGreatDoorMC21
import Derived.Test.YtmbofhpmockmbaaGreatDoorMC22
import Derived.Test.YtmbofhpmockmbaaGreatDoorMC4
namespace Go.Proofs.YtmbofhpmockmbaaGreatDoor
open Go.RowKit Go.Shelf
set_option maxHeartbeats 16000000
set_option maxRecDepth 100000
abbrev Z2:Ex:=.mk 0 [] 0 [] 0
def zR (l:List UInt8) (x:Ex) (at0 err:Nat):Prop :=
 if (zn l).2.2≠0 then x=Z2∧at0=(zn l).2.1∧err=(zn l).2.2 else
 ∃f res,zg f 1 (zn l).1=some res∧match Zs res with
  | .error a=>x=Z2∧at0=a∧err=6
  | .ok y=>if 24<depthE y then x=Z2∧at0=0∧err=7 else x=y∧at0=0∧err=0
theorem vR (l:List UInt8):∀(f line a:Nat),(scanS l f line a).1.length≤f
 | 0,_,_=>by simp [scanS]
 | f+1,line,a=>by
  have e:=vR l f (z8 l line a) (zl l a+(zt l a).sz);rw [scanS]
  split
  ·simp
  ·split
   ·simp
   ·split
    ·simp
    ·simp only [List.length_cons];omega
theorem vS (l:List UInt8):(zn l).1.length≤4097:=by
 unfold zn
 split
 ·simp
 ·have:=vR l (l.length+1) 1 0
  omega
theorem UJ {w:World} {B e sz n:Nat} {v:Value} {xs:List Value} (h:w.ownsRow B e sz v n xs) (hn:1≤n):∃g o,v=.slice (some ⟨g,0,none⟩) n o∧B≤g∧g<w.heap.size∧n≤o∧o≤maxLen∧∀j u,xs[j]?=some u→w.cell? ⟨g,j,none⟩=some u:=by
 obtain ⟨g,o,rfl,H,D,A,E⟩:=qw h hn;refine ⟨g,o,rfl,H,D,A,?_,E⟩;rcases h.2 with ⟨y,_⟩ | ⟨J,z,I,y,_,_,_,G,_⟩
 ·cases y
 ·cases y;exact G
abbrev rdW (w:World) (v:Value):World:=(w.alloc (.cells #[v] 147)).alloc (.cells #[.pointer (some ⟨w.heap.size,0,none⟩)] 117)
theorem Q1 (ts:List Tk) (g cap B0 B2 f:Nat) (w0 w2:World) (res:PR Ex) (hE:zq ts) (hlen:ts.length≤4097) (hp:zg f 1 ts=some res) (hgl:g<w2.heap.size) (hcap:ts.length≤cap) (hmax:cap≤maxLen) (hcell:∀j u,(zy ts)[j]?=some u→w2.cell? ⟨g,j,none⟩=some u)
  (hb:Below w0.heap.size w0 w2) (hl:yF w0) (he:Xf w0) (hB0:w0.heap.size≤B0) (hB2:w0.heap.size≤B2) (hB2g:B2≠g)
  (b0:w2.heap[B0]?=some (.cells #[.func (.func 74) #[] #[]] 115 (0,0))) (b2:w2.heap[B2]?=some zJ) :
  Calls Tryz.prog 95 #[.func (.func 96) #[] #[.pointer (some ⟨B0,0,none⟩),.pointer (some ⟨w2.heap.size+1,0,none⟩),.pointer (some ⟨B2,0,none⟩)]] (rdW w2 (.slice (some ⟨g,0,none⟩) ts.length cap)) fun e w' =>
   ∃H,Below (w2.heap.size+1+1) H w'∧Xa w2.heap.size B2 w2 H∧match Zs res with
    | .error a=>e=.returned (.tuple #[.int .i64 a,.int .i64 6])
    | .ok x=>e=.returned (.tuple #[.int .i64 0,.int .i64 0])∧∃(a:Int) (b:ByteArray) (c:Int) (U:Option Addr) (T V:Nat) (l:Int),H.heap[B2]?=some (.cells #[.int .i64 a,.string b,.int .i64 c,.slice U T V,.int .i64 l] 90 (0,0))∧zM (w2.heap.size+1+1) w' x (.agg #[.int .i64 a,.string b,.int .i64 c,.slice U T V,.int .i64 l]):=by
 obtain ⟨K,A,rfl⟩:=hE.cons;have hs:w0.heap.size≤w2.heap.size:=hb.size;have X:5<w0.heap.size:=World.block_lt_of_cell? w0 _ (hl 0 _ rfl);have Y:4<w0.heap.size:=World.block_lt_of_cell? w0 _ he;have R:B0<w2.heap.size:=(Array.getElem?_eq_some_iff.1 b0).1;have L:B2<w2.heap.size:=(Array.getElem?_eq_some_iff.1 b2).1;obtain ⟨w3,y⟩:∃w3,w3=rdW w2 (.slice (some ⟨g,0,none⟩) (K::A).length cap):=⟨_,rfl⟩;have E:w3.heap.size=w2.heap.size+1+1:=by rw [y];simp
 obtain ⟨W,D⟩:∃W,W=zaI w3:=⟨_,rfl⟩;have ae:W.heap.size=w2.heap.size+1+1+1+1:=by rw [D];simp [E]
 have I:∀k,k<w3.heap.size→W.heap[k]?=w3.heap[k]?:=fun k hk=>by rw [D,Below.heap_alloc _ _ _ (by simp;omega),Below.heap_alloc _ _ _ hk]
 have Z:∀k,k<w2.heap.size→w3.heap[k]?=w2.heap[k]?:=fun k hk=>by rw [y,Below.heap_alloc _ _ _ (by simp;omega),Below.heap_alloc _ _ _ hk]
 have z:∀k,k<w2.heap.size→W.heap[k]?=w2.heap[k]?:=fun k hk=>(I k (by omega)).trans (Z k hk)
 have pr:W.heap[w2.heap.size]?=some (.cells #[.slice (some ⟨g,0,none⟩) (K::A).length cap] 147 (0,0)):=by
  rw [I _ (by omega),y,Below.heap_alloc _ _ _ (by simp)];exact World.alloc_heap_new _ _
 have p1:W.heap[w2.heap.size+1]?=some (.cells #[.pointer (some ⟨w2.heap.size,0,none⟩)] 117 (0,0)):=by
  rw [I _ (by omega),y]
  have:=World.alloc_heap_new (w2.alloc (.cells #[.slice (some ⟨g,0,none⟩) (K::A).length cap] 147)) (.cells #[.pointer (some ⟨w2.heap.size,0,none⟩)] 117)
  simpa using this
 have pa:W.heap[w3.heap.size]?=some (.cells #[.int .i64 0] 3 (0,0)):=by
  rw [D,Below.heap_alloc _ _ _ (by simp)];exact World.alloc_heap_new _ _
 have pb:W.heap[w3.heap.size+1]?=some (.cells #[.int .i64 0] 25 (0,0)):=by
  rw [D]
  have:=World.alloc_heap_new (w3.alloc (.cells #[.int .i64 0] 3)) (.cells #[.int .i64 0] 25)
  simpa using this
 have aa:zj w2.heap.size g 0 cap (K::A) W :=
  { cell:=by simp only [World.cell?,pr];rfl
    soft:=by simp only [World.frozen?,pr];simp
    hcap:=hcap
    hmax:=hmax
    other:=by omega
    toks:=fun j u hj=>by rw [Nat.zero_add,World.cell?_of_block (z g hgl)];exact hcell j u hj
    few:=by omega }
 have O:yF W:=fun j v hj=>by
  rw [World.cell?_of_block ((z 5 (by omega)).trans (hb.block _ X))];exact hl j v hj
 have ad:=zax w2.heap.size g 0 cap B0 (w2.heap.size+1) B2 f _ _ (K::A) W res aa hE O (by omega) hp ((z _ R).trans b0) p1 ((z _ L).trans b2) (by omega) (by omega) hB2g (by omega)
 rw [←y];refine (X8 96 #[.pointer (some ⟨B0,0,none⟩),.pointer (some ⟨w2.heap.size+1,0,none⟩),.pointer (some ⟨B2,0,none⟩)] w3 (fun w'=>v7 w2.heap.size B2 W (Zs res) (.returned (.tuple #[])) w') (fun N at0 w'=>N=6∧∃a:Nat,at0=(a:Int)∧Zs res=.error a∧Xa w2.heap.size B2 W w') (fun _=>rfl) ?_).mono ?_
 ·rw [←D]
  refine ad.mono fun e w' o=>⟨(o.1.block _ (by omega) (by omega) (by omega)).trans pa,(o.1.block _ (by omega) (by omega) (by omega)).trans pb,?_,?_⟩
  ·unfold Xf
   rw [World.cell?_of_block ((o.1.block 4 (by omega) (by omega) (by omega)).trans ((z 4 (by omega)).trans (hb.block _ Y)))];exact he
  ·have M:=o
   unfold v7 at o
   cases G:Zs res with
   | error a=>rw [G] at o;exact .inr ⟨6,a,o.2,rfl,a,rfl,rfl,o.1⟩
   | ok x=>rw [G] at o M;have:=o.2.1;subst this;exact .inl ⟨rfl,M⟩
 ·have Q:∀w',Xa w2.heap.size B2 W w'→Xa w2.heap.size B2 w2 w':=fun w' h=>⟨by rw [h.os,D,y];rfl,by rw [h.tape,D,y];rfl,by rw [h.output,D,y];rfl,by have:=h.size;omega,fun k hk hr hb'=>(h.block k (by omega) hr hb').trans (z k hk)⟩
  rintro e w' (⟨H,rfl,o,J,ab⟩ | ⟨N,at0,H,rfl,⟨rfl,a,rfl,G,hK⟩,J⟩)
  ·rw [E] at J
   refine ⟨H,J,Q _ o.1,?_⟩
   unfold v7 at o
   cases G:Zs res with
   | error a=>rw [G] at o;exact absurd o.2 (by simp [ZQ])
   | ok x =>
    rw [G] at o;obtain ⟨-,-,a,b,c,U,T,V,l,h1,h2⟩:=o;exact ⟨rfl,a,b,c,U,T,V,l,h1,zM.mono (zM.kept h2 J.size fun k hk _=>ab k (by omega) (by omega)) (by omega)⟩
  ·rw [E] at J
   refine ⟨H,J,Q _ hK,?_⟩;rw [G]
theorem zaN (l:List UInt8) (w:World) (ht:Z1 w) (hl:yF w) (he:Xf w) :
  Calls Tryz.prog 73 #[.string (za l),.func (.func 74) #[] #[],.func (.func 75) #[] #[]] w fun e w' =>
   ∃(x:Ex) (at0 err:Nat) (v:Value),e=.returned (.tuple #[v,.int .i64 at0,.int .i64 err])∧zR l x at0 err∧zM w.heap.size w' x v∧Below w.heap.size w w':=by
 obtain ⟨w1,K⟩:∃w1,w1=(((w.alloc (.cells #[.func (.func 74) #[] #[]] 115)).alloc zJ).alloc zJ).alloc zJ:=⟨_,rfl⟩;have aC:w1.heap.size=w.heap.size+1+1+1+1:=by rw [K];simp
 have ai:Below w.heap.size w w1:=by
  rw [K];exact ((((Below.refl w.heap.size w).alloc (Nat.le_refl _) _).alloc (by simp) _).alloc (by simp <;> omega) _).alloc (by simp <;> omega) _
 have m0:w1.heap[w.heap.size]?=some (.cells #[.func (.func 74) #[] #[]] 115 (0,0)):=by
  rw [K,Below.heap_alloc _ _ _ (by simp <;> omega),Below.heap_alloc _ _ _ (by simp <;> omega),Below.heap_alloc _ _ _ (by simp)];exact World.alloc_heap_new _ _
 have m1:w1.heap[w.heap.size+1]?=some zJ:=by
  rw [K,Below.heap_alloc _ _ _ (by simp <;> omega),Below.heap_alloc _ _ _ (by simp)]
  have:=World.alloc_heap_new (w.alloc (.cells #[.func (.func 74) #[] #[]] 115)) zJ
  simpa using this
 have m2:w1.heap[w.heap.size+1+1]?=some zJ:=by
  rw [K,Below.heap_alloc _ _ _ (by simp)]
  have:=World.alloc_heap_new ((w.alloc (.cells #[.func (.func 74) #[] #[]] 115)).alloc zJ) zJ
  simpa using this
 have m3:w1.heap[w.heap.size+1+1+1]?=some zJ:=by
  rw [K]
  have:=World.alloc_heap_new (((w.alloc (.cells #[.func (.func 74) #[] #[]] 115)).alloc zJ).alloc zJ) zJ
  simpa using this
 have cs:=Qg l w1 (ht.below ai (Nat.le_refl _));have an:Hid (w1=(((w.alloc (.cells #[.func (.func 74) #[] #[]] 115)).alloc zJ).alloc zJ).alloc zJ):=K;have ag:Hid (Below w.heap.size w w1):=ai;have HL:Hid (yF w):=hl;have HE:Hid (Xf w):=he;have HM:Hid (w1.heap[w.heap.size]?=some (.cells #[.func (.func 74) #[] #[]] 115 (0,0))∧w1.heap[w.heap.size+1]?=some zJ∧w1.heap[w.heap.size+1+1]?=some zJ∧w1.heap[w.heap.size+1+1+1]?=some zJ):=⟨m0,m1,m2,m3⟩;clear K ai hl he m0 m1 m2 m3 ht
 go_enter Tryz.func73,Tryz.ntmps73
 go_wp2_with fail
 rw [←an.out];refine cs.mono ?_;clear cs an;rintro e w2 ⟨v,rfl,V,Z⟩;have G:∀k,k<w1.heap.size→w2.heap[k]?=w1.heap[k]?:=fun k hk=>Z.block k hk
 have p0:=(G _ (by omega)).trans HM.out.1
 have p1:=(G _ (by omega)).trans HM.out.2.1
 have p2:=(G _ (by omega)).trans HM.out.2.2.1
 have p3:=(G _ (by omega)).trans HM.out.2.2.2
 have o:Below w.heap.size w w2:=ag.out.trans (Z.mono (by omega))
 have ap:Hid (Below w.heap.size w w2):=o;obtain ⟨a0,a1,a2,a3,a4,af⟩:=zd p1;obtain ⟨c0,c1,c2,c3,c4,-⟩:=zd p2;have ay:=Z.size
 by_cases herr:(zn l).2.2≠0
 ·have HI:Hid (zR l Z2 (zn l).2.1 (zn l).2.2):=show zR _ _ _ _ by unfold zR;rw [if_pos herr];exact ⟨rfl,rfl,rfl⟩
  have Y:¬((zn l).2.2:Int)=0:=by omega
  generalize (zn l).2.1=A at *;generalize (zn l).2.2=E at *;have h1:((E:Int)==0)=false:=by rw [beq_eq_false_iff_ne];exact Y
  have h2:((E:Int) != 0)=true:=by simp [bne,h1]
  have h3:decide ((E:Int)=0)=false:=by rw [decide_eq_false_iff_not];exact Y
  have h4:(E==0)=false:=by rw [beq_eq_false_iff_ne];exact herr
  have h5:decide (E=0)=false:=by rw [decide_eq_false_iff_not];exact herr
  have h6:(E != 0)=true:=by simp [bne,h4]
  obtain ⟨z0,z1,z2,z3,z4⟩:=zi p1 (.int .i64 0) (.string ⟨#[]⟩) (.int .i64 0) (.slice none 0 0) (.int .i64 0)
  have aq:Below w.heap.size w (set5 w2 (w.heap.size+1) (.int .i64 0) (.string ⟨#[]⟩) (.int .i64 0) (.slice none 0 0) (.int .i64 0)) :=
   ((((o.setCell (p:=⟨w.heap.size+1,0,none⟩) (by simp) _).setCell (p:=⟨w.heap.size+1,1,none⟩) (by simp) _).setCell (p:=⟨w.heap.size+1,2,none⟩) (by simp) _).setCell (p:=⟨w.heap.size+1,3,none⟩) (by simp) _).setCell (p:=⟨w.heap.size+1,4,none⟩) (by simp) _
  have M:Hid (Below w.heap.size w (set5 w2 (w.heap.size+1) (.int .i64 0) (.string ⟨#[]⟩) (.int .i64 0) (.slice none 0 0) (.int .i64 0))):=aq;clear aq o Z V G p0 p1 p2 p3 HM ap HL HE ag;go_wp2
  refine bodyPost_ret (v:=.tuple #[.agg #[.int .i64 0,.string ⟨#[]⟩,.int .i64 0,.slice none 0 0,.int .i64 0],.int .i64 A,.int .i64 E]) (by simp [results,Tryz.results73,go_sem,z0,z1,z2,z3,z4]) rfl ⟨Z2,A,E,_,rfl,HI.out,.leaf 0 [] 0 0,M.out⟩
 ·have aa:(zn l).2.2=0:=by simpa using herr
  have hE:=XK l aa;obtain ⟨t0,aA,ar⟩:=hE.cons;obtain ⟨g,I,rfl,hg,ax,av,au,ab⟩:∃g I,v=.slice (some ⟨g,0,none⟩) (zn l).1.length I∧w1.heap.size≤g∧g<w2.heap.size∧(zn l).1.length≤I∧I≤maxLen∧∀j u,(zy (zn l).1)[j]?=some u→w2.cell? ⟨g,j,none⟩=some u:=UJ V (by rw [ar];simp)
  have am:=vS l;obtain ⟨f,res,hf,-⟩:=(YP (zn l).1.length (zn l).1 (Nat.le_refl _)).1 1;have hp:zg f 1 (zn l).1=some res:=hf 0;have ca:=Q1 (zn l).1 g I w.heap.size (w.heap.size+1+1+1) f w w2 res hE am hp ax av au ab o HL.out HE.out (Nat.le_refl _) (by omega) (by omega) p0 p3
  have az:∀(fn:Fn) (first I:Array Value) (w:World),(Instr.makeFunc fn first I).run Tryz.prog w=.ok (.func fn first I) w:=fun _ _ _ _=>rfl
  have ae:∀x us,res=.ok (x,us)→depthE x≤4097:=fun x us h=>by
   subst h
   have:=(Xb f).1 _ _ _ _ hp
   omega
  have HI:Hid (∀x at0 err,(match Zs res with | .error a=>x=Z2∧at0=a∧err=6 | .ok y=>if 24<depthE y then x=Z2∧at0=0∧err=7 else x=y∧at0=0∧err=0)→zR l x at0 err):=fun x at0 err h=>by
   unfold zR
   rw [if_neg herr];exact ⟨f,res,hp,h⟩
  have Q:Hid (∀k,k≤w.heap.size+1+1→∀X z,Below (w2.heap.size+1+1) X z→Xa w2.heap.size (w.heap.size+1+1+1) w2 X→z.heap[k]?=w2.heap[k]?):=fun k hk X z h5 h6 =>
   (h5.block k (by omega)).trans (h6.block k (by omega) (by omega) (by omega))
  have ah:Hid (∀X z,Below (w2.heap.size+1+1) X z→Xa w2.heap.size (w.heap.size+1+1+1) w2 X→Below w.heap.size w z):=fun X z h5 h6 =>
   ⟨h5.os.trans (h6.os.trans o.os),h5.tape.trans (h6.tape.trans o.tape),h5.output.trans (h6.output.trans o.output),by have:=h5.size;have:=h6.size;have:=o.size;omega,fun k hk=>(h5.block k (by omega)).trans ((h6.block k (by omega) (by omega) (by omega)).trans (o.block k hk))⟩
  have ad:Hid (w2.heap[w.heap.size+1]?=some zJ∧w2.heap[w.heap.size+1+1]?=some zJ):=⟨p1,p2⟩;rw [aa];generalize (zn l).2.1=A at *;clear o Z V G p0 p1 p2 p3 HM ap HL HE ag ab hp hf hE ar a0 a1 a2 a3 a4 af c0 c1 c2 c3 c4;go_wp2_with fail
  refine ca.mono ?_;clear ca;rintro e z ⟨X,L,T,H⟩;have q1:=(Q.out (w.heap.size+1) (by omega) X z L T).trans ad.out.1
  have q2:=(Q.out (w.heap.size+1+1) (by omega) X z L T).trans ad.out.2
  have O:=ah.out X z L T;obtain ⟨a0,a1,a2,a3,a4,af⟩:=zd q1;obtain ⟨c0,c1,c2,c3,c4,-⟩:=zd q2
  have R:∀W,Below w.heap.size w W→∀v0 v1 v2 v3 v4,Below w.heap.size w (set5 W (w.heap.size+1) v0 v1 v2 v3 v4):=fun W hW v0 v1 v2 v3 v4 =>
   ((((hW.setCell (p:=⟨w.heap.size+1,0,none⟩) (by simp) _).setCell (p:=⟨w.heap.size+1,1,none⟩) (by simp) _).setCell (p:=⟨w.heap.size+1,2,none⟩) (by simp) _).setCell (p:=⟨w.heap.size+1,3,none⟩) (by simp) _).setCell (p:=⟨w.heap.size+1,4,none⟩) (by simp) _
  cases hR:Zs res with
  | error a =>
   rw [hR] at H;obtain rfl:=H;have U:Hid (zR l Z2 a 6):=HI.out Z2 a 6 (by rw [hR];exact ⟨rfl,rfl,rfl⟩)
   obtain ⟨z0,z1,z2,z3,z4⟩:=zi q1 (.int .i64 0) (.string ⟨#[]⟩) (.int .i64 0) (.slice none 0 0) (.int .i64 0);have M:Hid (Below w.heap.size w (set5 z (w.heap.size+1) (.int .i64 0) (.string ⟨#[]⟩) (.int .i64 0) (.slice none 0 0) (.int .i64 0))):=R z O _ _ _ _ _;clear R O q1 q2 L T HI Q ah ad;go_wp2
   refine bodyPost_ret (v:=.tuple #[.agg #[.int .i64 0,.string ⟨#[]⟩,.int .i64 0,.slice none 0 0,.int .i64 0],.int .i64 a,.int .i64 6]) (by simp [results,Tryz.results73,go_sem,z0,z1,z2,z3,z4]) rfl ⟨Z2,a,6,_,rfl,U.out,.leaf 0 [] 0 0,M.out⟩
  | ok x =>
   rw [hR] at H;obtain ⟨rfl,xa,xb,xc,x0,x1,x2,xl,ao,hx⟩:=H
   have aD:depthE x≤4097:=by
    rcases res with a | ⟨y,us⟩
    ·cases hR
    ·unfold Zs at hR
     simp only at hR
     split at hR
     ·cases hR;exact ae _ us rfl
     ·cases hR
   have aB:=L.size;have aE:=T.size;have qx:=(L.block (w.heap.size+1+1+1) (by omega)).trans ao
   obtain ⟨e0,e1,e2,e3,e4,-⟩:=zd qx;have cd:=vw (fun k=>w2.heap.size+1+1≤k) (depthE x) z x _ z (Nat.le_refl _) (by omega) (Below.refl _ _) hx
   have HX:Hid (zM (w2.heap.size+1+1) z x (.agg #[.int .i64 xa,.string xb,.int .i64 xc,.slice x0 x1 x2,.int .i64 xl])):=hx;have HQ:Hid (z.heap[w.heap.size+1]?=some zJ∧z.heap[w.heap.size+1+1]?=some zJ∧z.heap[w.heap.size+1+1+1]?=some (.cells #[.int .i64 xa,.string xb,.int .i64 xc,.slice x0 x1 x2,.int .i64 xl] 90 (0,0))):=⟨q1,q2,qx⟩;have ak:Hid (Below w.heap.size w z):=O;have HS:Hid (∀W,Below w.heap.size w W→∀v0 v1 v2 v3 v4,Below w.heap.size w (set5 W (w.heap.size+1) v0 v1 v2 v3 v4)):=R;have U:Hid (∀y at0 err,(if 24<depthE x then y=Z2∧at0=0∧err=7 else y=x∧at0=0∧err=0)→zR l y at0 err):=fun y at0 err h=>HI.out y at0 err (by rw [hR];exact h)
   generalize hD:depthE x=D at *;clear R O q1 q2 qx L T HI Q ah ad hx ao ae;go_wp2_with fail
   refine cd.mono ?_;clear cd a0 a1 a2 a3 a4 af c0 c1 c2 c3 c4 e0 e1 e2 e3 e4;rintro e w7 ⟨rfl,J⟩;have r1:=(J.block _ (by omega)).trans HQ.out.1
   have r2:=(J.block _ (by omega)).trans HQ.out.2.1
   have r3:=(J.block _ (by omega)).trans HQ.out.2.2
   have N:Below w.heap.size w w7:=ak.out.trans (J.mono (by omega))
   have al:zM (w2.heap.size+1+1) w7 x (.agg #[.int .i64 xa,.string xb,.int .i64 xc,.slice x0 x1 x2,.int .i64 xl]):=zM.kept HX.out J.size fun k _ hlt=>J.block k hlt
   obtain ⟨a0,a1,a2,a3,a4,af⟩:=zd r1
   by_cases hdeep:24<D
   ·obtain ⟨c0,c1,c2,c3,c4,-⟩:=zd r2
    obtain ⟨z0,z1,z2,z3,z4⟩:=zi r1 (.int .i64 0) (.string ⟨#[]⟩) (.int .i64 0) (.slice none 0 0) (.int .i64 0);have aj:Hid (zR l Z2 0 7):=U.out Z2 0 7 (by rw [if_pos hdeep];exact ⟨rfl,rfl,rfl⟩)
    have M:Hid (Below w.heap.size w (set5 w7 (w.heap.size+1) (.int .i64 0) (.string ⟨#[]⟩) (.int .i64 0) (.slice none 0 0) (.int .i64 0))):=HS.out w7 N _ _ _ _ _;have h1:(24:Int)<(D:Int):=by omega
    clear N al r1 r2 r3 J HQ HX ak HS U;go_wp2
    refine bodyPost_ret (v:=.tuple #[.agg #[.int .i64 0,.string ⟨#[]⟩,.int .i64 0,.slice none 0 0,.int .i64 0],.int .i64 0,.int .i64 7]) (by simp [results,Tryz.results73,go_sem,z0,z1,z2,z3,z4]) rfl ⟨Z2,0,7,_,rfl,aj.out,.leaf 0 [] 0 0,M.out⟩
   ·obtain ⟨c0,c1,c2,c3,c4,-⟩:=zd r3
    obtain ⟨z0,z1,z2,z3,z4⟩:=zi r1 (.int .i64 xa) (.string xb) (.int .i64 xc) (.slice x0 x1 x2) (.int .i64 xl);have aj:Hid (zR l x 0 0):=U.out x 0 0 (by rw [if_neg hdeep];exact ⟨rfl,rfl,rfl⟩)
    have M:Hid (Below w.heap.size w (set5 w7 (w.heap.size+1) (.int .i64 xa) (.string xb) (.int .i64 xc) (.slice x0 x1 x2) (.int .i64 xl))):=HS.out w7 N _ _ _ _ _;have aw:Hid (zM w.heap.size (set5 w7 (w.heap.size+1) (.int .i64 xa) (.string xb) (.int .i64 xc) (.slice x0 x1 x2) (.int .i64 xl)) x (.agg #[.int .i64 xa,.string xb,.int .i64 xc,.slice x0 x1 x2,.int .i64 xl])):=zM.mono (zM.kept al (w':=set5 w7 (w.heap.size+1) (.int .i64 xa) (.string xb) (.int .i64 xc) (.slice x0 x1 x2) (.int .i64 xl)) (by simp) fun k hk _=>zh _ _ _ _ _ _ _ (by omega)) (by omega)
    have h1:¬(24:Int)<(D:Int):=by omega
    clear N al r1 r2 r3 J HQ HX ak HS U;go_wp2
    refine bodyPost_ret (v:=.tuple #[.agg #[.int .i64 xa,.string xb,.int .i64 xc,.slice x0 x1 x2,.int .i64 xl],.int .i64 0,.int .i64 0]) (by simp [results,Tryz.results73,go_sem,z0,z1,z2,z3,z4]) rfl ⟨x,0,0,_,rfl,aj.out,aw.out,M.out⟩
end Go.Proofs.YtmbofhpmockmbaaGreatDoor
