import Derived.Test.YtpejpbbdgblbeaaGreatDoorMC21
import Derived.Test.YtpejpbbdgblbeaaGreatDoorMC18
import Derived.Test.YtpejpbbdgblbeaaGreatDoorMC14
namespace Go.Proofs.YtpejpbbdgblbeaaGreatDoor
open Go.RowKit Go.Shelf
set_option maxHeartbeats 16000000
set_option maxRecDepth 100000
structure Rc where
 name:List UInt8
 fields:List Pm
 line:Nat
def xP (line:Nat) (t t1:Tk) (res:PR (List Pm)):PR Rc :=
 if t.k=1 then
  if zm t1 [123]=true then
   match res with
   | .error a=>.error a
   | .ok (l,us)=>if zm (zv us) [125]=true then .ok (⟨t.s,l,line⟩,us.tail) else .error (zv us).at0
  else .error t1.at0
 else .error t.at0
abbrev rcZ:Obj:=.cells #[.string ⟨#[]⟩,.slice none 0 0,.int .i64 0] 74
def X4 (r g:Nat) (w:World) (res:PR Rc) (e:Ending) (w':World):Prop :=
 zd r w w'∧match res with
  | .error a=>e=ZI a
  | .ok (x,ts)=>∃v o cap,e=.returned (.agg #[.string (zb x.name),v,.int .i64 x.line])∧ZV w.heap.size w' x.fields v∧zg r g o cap ts w'
theorem QN {w:World} {N:Nat} {x0 x1 x2:Value} {ty:TypeId} (h:w.heap[N]?=some (.cells #[x0,x1,x2] ty (0,0))) :
  w.cell? ⟨N,0,none⟩=some x0∧w.cell? ⟨N,1,none⟩=some x1∧w.cell? ⟨N,2,none⟩=some x2∧∀j,w.frozen? ⟨N,j,none⟩=false:=by
 refine ⟨?_,?_,?_,fun j=>?_⟩
 ·simp only [World.cell?,h];rfl
 ·simp only [World.cell?,h];rfl
 ·simp only [World.cell?,h];rfl
 ·simp only [World.frozen?,h];simp
theorem ZV.slice {B:Nat} {w:World} {l:List Pm} {v:Value} (h:ZV B w l v):∃d0 d1 d2,v=.slice d0 d1 d2:=by
 rcases h with ⟨_,rfl⟩ | ⟨g,o,y,h⟩
 ·exact ⟨_,_,_,rfl⟩
 ·exact ⟨_,_,_,h.val⟩
theorem zaS (r g o cap line:Nat) (t t1:Tk) (us1:List Tk) (w:World) (res:PR (List Pm)) (h:zg r g o cap (t::t1::us1) w) (hE:zi (t::t1::us1)) (hEnd:∀l us,res=.ok (l,us)→zi us)
  (hrow:t.k=1→zm t1 [123]=true→∀A o1 W,zg r g o1 W us1 A→zd r w A→Calls Tryz.prog 96 #[.pointer (some ⟨r,0,none⟩),.func (.func 97) #[.pointer (some ⟨r,0,none⟩)] #[]] A (zaR r g A res)) :
  Calls Tryz.prog 53 #[.pointer (some ⟨r,0,none⟩),.int .i64 line] w (X4 r g w (xP line t t1 res)):=by
 generalize hres:xP line t t1 res=R;have az:∀(fn:Fn) (first cap:Array Value) (w:World),(Instr.makeFunc fn first cap).run Tryz.prog w=.ok (.func fn first cap) w:=fun _ _ _ _=>rfl
 have hr:=h.lt.1;have aB:=h.lt.2;obtain ⟨w0,I⟩:∃w0,w0=w.alloc rcZ:=⟨_,rfl⟩;have h0:zg r g o cap (t::t1::us1) w0:=by rw [I];exact h.alloc _
 have k0:zd r w w0:=by rw [I];exact (zd.refl r w).alloc _
 have b0:w0.heap[w.heap.size]?=some rcZ:=by rw [I];exact World.alloc_heap_new _ _
 have ay:w0.heap.size=w.heap.size+1:=by rw [I];simp
 have cn:=xu r g o cap t (t1::us1) w0 h0 (fun _=>by simp)
 have ai:Hid (w0=w.alloc rcZ):=I
 unfold xP at hres
 clear h h0 I
 by_cases hk:t.k=1
 ·simp only [if_pos hk] at cn
  rw [if_pos hk] at hres;have aq:=hE.tail (by omega:t.k≠0)
  go_enter Tryz.func53,Tryz.ntmps53
  go_wp2_with fail
  rw [←ai.out];refine cn.mono ?_;clear cn ai;rintro e A ⟨J,rfl,h1⟩;obtain ⟨w2,G⟩:∃w2,w2=A.alloc (.cells #[.string (zb t.s),.slice none 0 0,.int .i64 line] 74):=⟨_,rfl⟩;have h2:zg r g (o+5) (cap-1) (t1::us1) w2:=by rw [G];exact h1.alloc _
  have aE:=J.size;have b1:=(J.block _ (by omega) (by omega)).trans b0
  have b2:w2.heap[w.heap.size]?=some rcZ:=by rw [G];exact (Below.heap_alloc _ _ _ (by omega)).trans b1
  have bP:w2.heap[A.heap.size]?=some (.cells #[.string (zb t.s),.slice none 0 0,.int .i64 line] 74 (0,0)):=by rw [G];exact World.alloc_heap_new _ _
  have hP:A.heap.size<w2.heap.size:=(Array.getElem?_eq_some_iff.1 bP).1;have N:Hid (zd r w w2):=show zd _ _ _ by rw [G];exact (k0.trans J).alloc _
  have cd:=yJ r g (o+5) (cap-1) t1 us1 [123] w2 h2 (fun hi=>(aq.tail (zj hi)).ne)
  have aj:Hid (w2=A.alloc (.cells #[.string (zb t.s),.slice none 0 0,.int .i64 line] 74)):=G;have HB:Hid (w2.heap[w.heap.size]?=some rcZ∧w2.heap[A.heap.size]?=some (.cells #[.string (zb t.s),.slice none 0 0,.int .i64 line] 74 (0,0))):=⟨b2,bP⟩;clear G h1 J b0 b1 b2 bP k0 h2
  by_cases hc:zm t1 [123]=true
  ·simp only [if_pos hc] at cd
   rw [if_pos hc] at hres;go_wp2_with fail
   rw [←aj.out];refine cd.mono ?_;clear cd aj;rintro e w3 ⟨O,rfl,h3⟩;have ct:=hrow hk hc w3 _ _ h3 (N.out.trans O);have am:Hid (zd r w2 w3):=O;have aw:=O.size;clear hrow h3 O;go_wp2_with fail
   refine ct.mono ?_;clear ct;rintro e w4 ⟨al,D⟩;have H:zd r w2 w4:=am.out.trans al;rcases res with a | ⟨l,us⟩
   ·simp only at D hres
    obtain rfl:=D;subst hres;exact ⟨rfl,N.out.trans H,rfl⟩
   ·obtain ⟨v,g1,W,ar,o4,ab,rfl,an,ap⟩:=D
    simp only at hres;have Y:ZV w3.heap.size w4 l v:=.inr ⟨g1,W,ar,an⟩;obtain ⟨U,Q,T,rfl⟩:=Y.slice;have ak:=hEnd l us rfl;obtain ⟨t5,af,rfl⟩:=ak.cons;simp only [zE,List.tail_cons] at hres;have aC:=N.out.size;have aD:=H.size;have b4:=(H.block _ (by omega) (by omega)).trans HB.out.1
    have c4:=(H.block _ hP (by omega)).trans HB.out.2
    obtain ⟨-,aA,-,gf⟩:=QN c4;have ax:=gf 1;obtain ⟨w5,L⟩:∃w5,w5=w4.setCell ⟨A.heap.size,1,none⟩ (.slice U Q T):=⟨_,rfl⟩;have y:∀k,k≠A.heap.size→w5.heap[k]?=w4.heap[k]?:=fun k hk=>by rw [L];exact Below.heap_setCell _ _ _ _ (by simpa using hk)
    have c5:w5.heap[A.heap.size]?=some (.cells #[.string (zb t.s),.slice U Q T,.int .i64 line] 74 (0,0)):=by rw [L];exact zq _ c4
    have b5:=(y w.heap.size (by omega)).trans b4
    have av:w4.heap.size≤w5.heap.size:=by rw [L];simp
    have k5:zd r w w5:=by rw [L];exact (N.out.trans H).setOther (by simp;omega) _
    have ae:zg r g o4 ab (t5::af) w5:=ap.keep (y r (by omega)) (y g (by omega))
    have Z:ZV w3.heap.size w5 l (.slice U Q T):=Y.kept av fun k hB _=>y k (by omega)
    have ao:=L.symm;have ce:=yJ r g o4 ab t5 af [125] w5 ae (fun hi=>(ak.tail (zj hi)).ne)
    have ag:Hid (zd r w w5):=k5;have ad:Hid (ZV w3.heap.size w5 l (.slice U Q T)):=Z;have ah:Hid (w5.heap[w.heap.size]?=some rcZ∧w5.heap[A.heap.size]?=some (.cells #[.string (zb t.s),.slice U Q T,.int .i64 line] 74 (0,0))):=⟨b5,c5⟩;have au:A.heap.size<w5.heap.size:=(Array.getElem?_eq_some_iff.1 c5).1;clear L y b4 c4 c5 b5 k5 ae ap gf al H HB N am Y Z an
    by_cases hm:zm t5 [125]=true
    ·simp only [if_pos hm] at ce
     rw [if_pos hm] at hres;subst hres;go_wp2_with fail
     refine ce.mono ?_;clear ce ao;rintro e w6 ⟨z,rfl,h6⟩;have b6:=(z.block _ (by omega) (by omega)).trans ah.out.1
     have c6:=(z.block _ au (by omega)).trans ah.out.2
     obtain ⟨e0,e1,e2,-⟩:=QN c6;obtain ⟨q0,q1,q2,qf⟩:=QN b6;have b7:=zq (j:=2) (.int .i64 line) (zq (j:=1) (.slice U Q T) (zq (j:=0) (.string (zb t.s)) b6));obtain ⟨z0,z1,z2,-⟩:=QN (x0:=.string (zb t.s)) (x1:=.slice U Q T) (x2:=.int .i64 line) b7;have V:ZV w3.heap.size w6 l (.slice U Q T):=ad.out.kept z.size fun k hB hlt=>z.block k hlt (by omega)
     have k6:zd r w w6:=ag.out.trans z
     have aa:∀k,k≠w.heap.size→(((w6.setCell ⟨w.heap.size,0,none⟩ (.string (zb t.s))).setCell ⟨w.heap.size,1,none⟩ (.slice U Q T)).setCell ⟨w.heap.size,2,none⟩ (.int .i64 line)).heap[k]?=w6.heap[k]?:=fun k hk=>by
      rw [Below.heap_setCell _ _ _ _ (by simpa using hk),Below.heap_setCell _ _ _ _ (by simpa using hk),Below.heap_setCell _ _ _ _ (by simpa using hk)]
     have HP:Hid (X4 r g w (.ok (⟨t.s,l,line⟩,af)) (.returned (.agg #[.string (zb t.s),.slice U Q T,.int .i64 line])) (((w6.setCell ⟨w.heap.size,0,none⟩ (.string (zb t.s))).setCell ⟨w.heap.size,1,none⟩ (.slice U Q T)).setCell ⟨w.heap.size,2,none⟩ (.int .i64 line))):=by
      refine ⟨((k6.setOther (p:=⟨w.heap.size,0,none⟩) (by simp) _).setOther (p:=⟨w.heap.size,1,none⟩) (by simp) _).setOther (p:=⟨w.heap.size,2,none⟩) (by simp) _,_,_,_,rfl,?_,h6.keep (aa r (by omega)) (aa g (by omega))⟩
      exact (V.kept (by simp) fun k hB _=>aa k (by omega)).mono (by omega)
     clear b6 c6 b7 V k6 aa z h6 ah ad ag;go_wp2
     exact bodyPost_ret (v:=.agg #[.string (zb t.s),.slice U Q T,.int .i64 line]) (by simp [results,Tryz.results53,go_sem,z0,z1,z2]) rfl HP.out
    ·simp only [if_neg hm] at ce
     rw [if_neg hm] at hres;subst hres;go_wp2_with fail
     refine ce.mono ?_;clear ce;rintro e w6 ⟨z,rfl⟩;exact ⟨rfl,ag.out.trans z,rfl⟩
  ·simp only [if_neg hc] at cd
   rw [if_neg hc] at hres;subst hres;go_wp2_with fail
   rw [←aj.out];refine cd.mono ?_;clear cd;rintro e w3 ⟨O,rfl⟩;exact ⟨rfl,N.out.trans O,rfl⟩
 ·simp only [if_neg hk] at cn
  rw [if_neg hk] at hres;subst hres
  go_enter Tryz.func53,Tryz.ntmps53
  go_wp2_with fail
  rw [←ai.out];refine cn.mono ?_;clear cn;rintro e A ⟨J,rfl⟩;exact ⟨rfl,k0.trans J,rfl⟩
inductive St where
 | mk (k:Nat) (s:List UInt8) (es:List Ex) (body els:List St) (line:Nat)
def xQ (S:Nat→Prop) (w:World) (l:List St) (v:Value) (g cap:Nat) (us:List (List Value)):Prop :=
 (l=[]∧v=.slice none 0 0)∨(v=.slice (some ⟨g,0,none⟩) l.length cap∧l≠[]∧us.length=l.length∧S g∧g<w.heap.size∧l.length≤cap∧cap≤maxLen∧(∀j u,us.flatten[j]?=some u→w.cell? ⟨g,j,none⟩=some u)∧∀c∈us,c.length=6)
theorem xQ.kept {S:Nat→Prop} {w w':World} {l:List St} {v:Value} {g cap:Nat} {us:List (List Value)} (h:xQ S w l v g cap us) (hs:w.heap.size≤w'.heap.size) (hb:∀k,S k→k<w.heap.size→w'.heap[k]?=w.heap[k]?):xQ S w' l v g cap us:=by
 rcases h with h | ⟨G,z,A,y,o,D,I,J,H⟩
 ·exact .inl h
 ·refine .inr ⟨G,z,A,y,Nat.lt_of_lt_of_le o hs,D,I,fun j u hj=>?_,H⟩
  rw [World.cell?_of_block (hb g y o)];exact J j u hj
theorem xQ.wide {S S':Nat→Prop} {w:World} {l:List St} {v:Value} {g cap:Nat} {us:List (List Value)} (h:xQ S w l v g cap us) (hS:∀k,S k→S' k):xQ S' w l v g cap us:=by
 rcases h with h | ⟨G,o,z,A,y,D,I,J,H⟩
 ·exact .inl h
 ·exact .inr ⟨G,o,z,hS _ A,y,D,I,J,H⟩
theorem xQ.low {S:Nat→Prop} {w:World} {l:List St} {v:Value} {g cap:Nat} {us:List (List Value)} (h:xQ S w l v g cap us):xQ (fun k=>S k∧k<w.heap.size) w l v g cap us:=by
 rcases h with h | ⟨G,y,z,A,o,D,I,J,H⟩
 ·exact .inl h
 ·exact .inr ⟨G,y,z,⟨A,o⟩,o,D,I,J,H⟩
theorem zK.lower {S:Nat→Prop} {w:World} {l:List Ex} {v:Value} (h:zK S w l v):zK (fun k=>S k∧k<w.heap.size) w l v:=zK.low h
inductive yv (S:Nat→Prop) (w:World):St→Value→Prop where
 | mk (k:Nat) (s:List UInt8) (es:List Ex) (body els:List St) (line:Nat) (ve vb vl:Value) (gb cb gl cl:Nat) (ub ul:List (List Value)) (he:zK S w es ve)
   (hb:xQ S w body vb gb cb ub) (hbk:∀(j:Nat) (x:St) (c:List Value),body[j]?=some x→ub[j]?=some c→yv S w x (.agg c.toArray))
   (hl:xQ S w els vl gl cl ul) (hlk:∀(j:Nat) (x:St) (c:List Value),els[j]?=some x→ul[j]?=some c→yv S w x (.agg c.toArray)) :
   yv S w (.mk k s es body els line) (.agg #[.int .i64 k,.string (zb s),ve,vb,vl,.int .i64 line])
theorem yv.kept {S:Nat→Prop} {w w':World} {x:St} {v:Value} (h:yv S w x v) (hs:w.heap.size≤w'.heap.size) (hb:∀k,S k→k<w.heap.size→w'.heap[k]?=w.heap[k]?):yv S w' x v:=by
 induction h with
 | mk k s es body els line ve vb vl gb cb gl cl ub ul he hbr hbk hl hlk ih1 ih2 =>
  exact .mk k s es body els line ve vb vl gb cb gl cl ub ul (he.kept hs hb) (hbr.kept hs hb) ih1 (hl.kept hs hb) ih2
theorem yv.wide {S S':Nat→Prop} {w:World} {x:St} {v:Value} (h:yv S w x v) (hS:∀k,S k→S' k):yv S' w x v:=by
 induction h with
 | mk k s es body els line ve vb vl gb cb gl cl ub ul he hbr hbk hl hlk ih1 ih2 =>
  exact .mk k s es body els line ve vb vl gb cb gl cl ub ul (he.wide hS) (hbr.wide hS) ih1 (hl.wide hS) ih2
theorem yv.low {S:Nat→Prop} {w:World} {x:St} {v:Value} (h:yv S w x v):yv (fun k=>S k∧k<w.heap.size) w x v:=by
 induction h with
 | mk k s es body els line ve vb vl gb cb gl cl ub ul he hbr hbk hl hlk ih1 ih2 =>
  exact .mk k s es body els line ve vb vl gb cb gl cl ub ul he.lower hbr.low ih1 hl.low ih2
def StE (S:Nat→Prop) (w:World) (x:St) (c:List Value):Prop:=yv S w x (.agg c.toArray)
theorem Ub:yd StE:=⟨fun h hs hb=>yv.kept h hs hb,fun h hS=>yv.wide h hS,fun h=>yv.low h⟩
def z8 (S:Nat→Prop) (w:World) (l:List St) (v:Value):Prop :=
 ∃g cap us,xQ S w l v g cap us∧∀(j:Nat) (x:St) (c:List Value),l[j]?=some x→us[j]?=some c→yv S w x (.agg c.toArray)
theorem z8.nil (S:Nat→Prop) (w:World):z8 S w [] (.slice none 0 0):=⟨0,0,[],.inl ⟨rfl,rfl⟩,fun j x c h=>by simp at h⟩
theorem z8.kept {S:Nat→Prop} {w w':World} {l:List St} {v:Value} (h:z8 S w l v) (hs:w.heap.size≤w'.heap.size) (hb:∀k,S k→k<w.heap.size→w'.heap[k]?=w.heap[k]?):z8 S w' l v:=by
 obtain ⟨g,o,z,A,y⟩:=h;exact ⟨g,o,z,A.kept hs hb,fun j x c hx hc=>(y j x c hx hc).kept hs hb⟩
theorem z8.wide {S S':Nat→Prop} {w:World} {l:List St} {v:Value} (h:z8 S w l v) (hS:∀k,S k→S' k):z8 S' w l v:=by
 obtain ⟨g,o,z,A,y⟩:=h;exact ⟨g,o,z,A.wide hS,fun j x c hx hc=>(y j x c hx hc).wide hS⟩
theorem z8.slice {S:Nat→Prop} {w:World} {l:List St} {v:Value} (h:z8 S w l v):∃d0 d1 d2,v=.slice d0 d1 d2:=by
 obtain ⟨g,o,y,⟨_,rfl⟩ | ⟨rfl,_⟩,_⟩:=h
 ·exact ⟨_,_,_,rfl⟩
 ·exact ⟨_,_,_,rfl⟩
theorem yv.of {S:Nat→Prop} {w:World} {es:List Ex} {body els:List St} {ve vb vl:Value} (k:Nat) (s:List UInt8) (line:Nat) (he:zK S w es ve) (hb:z8 S w body vb) (hl:z8 S w els vl) :
  yv S w (.mk k s es body els line) (.agg #[.int .i64 k,.string (zb s),ve,vb,vl,.int .i64 line]):=by
 obtain ⟨D,y,A,G,h⟩:=hb;obtain ⟨I,J,H,o,z⟩:=hl;exact .mk k s es body els line ve vb vl D y I J A H he G h o z
theorem Zj.sts {ty B:Nat} {w:World} {l:List St} {v:Value} {g cap:Nat} {us:List (List Value)} (h:Zj StE 6 ty B w l v g cap us):z8 (fun k=>B≤k) w l v:=by
 have o:=h.block;refine ⟨g,cap,us,.inr ⟨h.val,h.ne,h.len,o.1,o.2.1,o.2.2.1,o.2.2.2,fun j u hj=>?_,h.wid⟩,fun j x c y hc=>yv.wide (h.kids j x c y hc) fun k hk=>hk.1⟩
 have y:=h.own.cells (g:=g) (by rw [h.val];rfl) j u hj
 by_cases h0:j=0
 ·subst h0;simpa [Addr.add] using y
 ·simpa [Addr.add,h0] using y
def ZH (r g:Nat) (w:World) (res:PR St) (e:Ending) (w':World):Prop :=
 zd r w w'∧match res with
  | .error a=>e=ZI a
  | .ok (x,ts)=>∃v o cap,e=.returned v∧yv (fun k=>w.heap.size≤k) w' x v∧zg r g o cap ts w'
def X5 (r g:Nat) (w:World) (res:PR (List St)) (e:Ending) (w':World):Prop :=
 zd r w w'∧match res with
  | .error a=>e=ZI a
  | .ok (l,ts)=>∃v o cap,e=.returned v∧z8 (fun k=>w.heap.size≤k) w' l v∧zg r g o cap ts w'
def yX (e:Ex):Bool:=e.kind==4||e.kind==8||e.kind==9
mutual
def Ze:Nat→List Tk→Option (PR St)
 | 0,_=>none
 | f+1,ts =>
  if zm (zv ts) [108,101,116]=true then zh (Z3 ts.tail) fun s us=>zh (zR [61] us) fun _ us=>zh (zf f 1 us) fun e us=>zh (zR [59] us) fun _ us=>some (.ok (.mk 1 s [e] [] [] (zv ts).line,us))
  else if zm (zv ts) [105,102]=true then zh (zf f 1 ts.tail) fun e us=>zh (zH f us) fun b us=>if zm (zv us) [101,108,115,101]=true then zh (zH f us.tail) fun c us=>some (.ok (.mk 4 [] [e] b c (zv ts).line,us)) else some (.ok (.mk 3 [] [e] b [] (zv ts).line,us))
  else if zm (zv ts) [119,104,105,108,101]=true then zh (zf f 1 ts.tail) fun e us=>zh (zH f us) fun b us=>some (.ok (.mk 5 [] [e] b [] (zv ts).line,us))
  else if zm (zv ts) [114,101,116,117,114,110]=true then if zm (zv ts.tail) [59]=true then some (.ok (.mk 6 [] [] [] [] (zv ts).line,ts.tail.tail)) else zh (zf f 1 ts.tail) fun e us=>zh (zR [59] us) fun _ us=>some (.ok (.mk 6 [] [e] [] [] (zv ts).line,us))
  else zh (zf f 1 ts) fun e us=>if zm (zv us) [61]=true then (if yX e=true then zh (zf f 1 us.tail) fun e2 us=>zh (zR [59] us) fun _ us=>some (.ok (.mk 2 [] [e,e2] [] [] (zv ts).line,us)) else some (.error (zv us).at0)) else zh (zR [59] us) fun _ us=>some (.ok (.mk 7 [] [e] [] [] (zv ts).line,us))
def zH:Nat→List Tk→Option (PR (List St))
 | 0,_=>none
 | f+1,ts=>zh (zR [123] ts) fun _ us=>Zd f [] us
def Zd:Nat→List St→List Tk→Option (PR (List St))
 | 0,_,_=>none
 | f+1,pre,ts=>if zm (zv ts) [125]=true then some (.ok (pre,ts.tail)) else zh (Ze f ts) fun s us=>Zd f (pre++[s]) us
end
theorem yC {α β:Type} {x:Option (PR α)} {k l:α→List Tk→Option (PR β)} {r:PR β} (h:zh x k=some r) (hk:∀a ts r,k a ts=some r→l a ts=some r):zh x l=some r:=zG h (fun _ h=>h) hk
theorem Xh (f:Nat) :
  (∀ts r,Ze f ts=some r→Ze (f+1) ts=some r)∧(∀ts r,zH f ts=some r→zH (f+1) ts=some r)∧(∀pre ts r,Zd f pre ts=some r→Zd (f+1) pre ts=some r):=by
 induction f with
 | zero=>refine ⟨?_,?_,?_⟩ <;> intros <;> rename_i h <;> simp [Ze,zH,Zd] at h
 | succ f ih =>
  obtain ⟨D,z,A⟩:=ih;have y:=(Yi f).1;refine ⟨fun ts r h=>?_,fun ts r h=>?_,fun pre ts r h=>?_⟩
  ·rw [Ze] at h ⊢
   split at h
   ·rename_i o;rw [if_pos o]
    exact yC h fun _ _ _ h=>yC h fun _ _ _ h=>zG h (y _ _) fun _ _ _ h=>h
   ·rename_i o;rw [if_neg o]
    split at h
    ·rename_i o;rw [if_pos o]
     refine zG h (y _ _) fun _ _ _ h=>zG h (z _) fun _ _ _ h=>?_
     split at h
     ·rename_i o;rw [if_pos o];exact zG h (z _) fun _ _ _ h=>h
     ·rename_i o;rw [if_neg o];exact h
    ·rename_i o;rw [if_neg o]
     split at h
     ·rename_i o;rw [if_pos o]
      exact zG h (y _ _) fun _ _ _ h=>zG h (z _) fun _ _ _ h=>h
     ·rename_i o;rw [if_neg o]
      split at h
      ·rename_i o;rw [if_pos o]
       split at h
       ·rename_i o;rw [if_pos o];exact h
       ·rename_i o;rw [if_neg o];exact zG h (y _ _) fun _ _ _ h=>h
      ·rename_i o;rw [if_neg o]
       refine zG h (y _ _) fun _ _ _ h=>?_
       split at h
       ·rename_i o;rw [if_pos o]
        split at h
        ·rename_i o;rw [if_pos o];exact zG h (y _ _) fun _ _ _ h=>h
        ·rename_i o;rw [if_neg o];exact h
       ·rename_i o;rw [if_neg o];exact h
  ·rw [zH] at h ⊢
   exact yC h fun _ _ _ h=>A _ _ _ h
  ·rw [Zd] at h ⊢
   split at h
   ·rename_i o;rw [if_pos o];exact h
   ·rename_i o;rw [if_neg o];exact zG h (D _) fun _ _ _ h=>A _ _ _ h
theorem vI (f:Nat) :
  (∀ts x us,Ze f ts=some (.ok (x,us))→zi ts→zi us)∧(∀ts x us,zH f ts=some (.ok (x,us))→zi ts→zi us)∧(∀pre ts x us,Zd f pre ts=some (.ok (x,us))→zi ts→zi us):=by
 induction f with
 | zero=>refine ⟨?_,?_,?_⟩ <;> intros <;> simp_all [Ze,zH,Zd]
 | succ f ih =>
  obtain ⟨O,I,L⟩:=ih;have A:=(Zi f).1;refine ⟨fun ts x us h hE=>?_,fun ts x us h hE=>?_,fun pre ts x us h hE=>?_⟩
  ·rw [Ze] at h
   split at h
   ·rename_i o
    obtain ⟨_,_,y,h⟩:=za h;obtain ⟨_,_,z,h⟩:=za h;obtain ⟨_,_,D,h⟩:=za h;obtain ⟨_,_,N,h⟩:=za h;exact Za h (zY N (A _ _ _ _ D (zY z (ZM y (zD hE o)))))
   ·split at h
    ·rename_i o
     obtain ⟨_,_,y,h⟩:=za h;obtain ⟨_,_,z,h⟩:=za h;have G:=I _ _ _ z (A _ _ _ _ y (zD hE o))
     split at h
     ·rename_i o
      obtain ⟨_,_,D,h⟩:=za h;exact Za h (I _ _ _ D (zD G o))
     ·exact Za h G
    ·split at h
     ·rename_i o
      obtain ⟨_,_,y,h⟩:=za h;obtain ⟨_,_,z,h⟩:=za h;exact Za h (I _ _ _ z (A _ _ _ _ y (zD hE o)))
     ·split at h
      ·rename_i o
       split at h
       ·rename_i J
        exact Za h (zD (zD hE o) J)
       ·obtain ⟨_,_,y,h⟩:=za h
        obtain ⟨_,_,z,h⟩:=za h;exact Za h (zY z (A _ _ _ _ y (zD hE o)))
      ·obtain ⟨_,_,y,h⟩:=za h
       have H:=A _ _ _ _ y hE
       split at h
       ·rename_i o
        split at h
        ·obtain ⟨_,_,z,h⟩:=za h
         obtain ⟨_,_,D,h⟩:=za h;exact Za h (zY D (A _ _ _ _ z (zD H o)))
        ·simp at h
       ·obtain ⟨_,_,z,h⟩:=za h
        exact Za h (zY z H)
  ·rw [zH] at h
   obtain ⟨_,_,y,h⟩:=za h;exact L _ _ _ _ h (zY y hE)
  ·rw [Zd] at h
   split at h
   ·rename_i o;exact Za h (zD hE o)
   ·obtain ⟨_,_,y,h⟩:=za h
    exact L _ _ _ _ h (O _ _ _ y hE)
abbrev xw:Obj:=.cells #[.int .i64 0,.string ⟨#[]⟩,.slice none 0 0,.slice none 0 0,.slice none 0 0,.int .i64 0] 108
abbrev XB (w:World) (N:Nat) (a b c d e f:Value):World:=(set5 w N a b c d e).setCell ⟨N,5,none⟩ f
theorem zM {w:World} {N:Nat} {x0 x1 x2 x3 x4 x5:Value} {ty:TypeId} (h:w.heap[N]?=some (.cells #[x0,x1,x2,x3,x4,x5] ty (0,0))) :
  w.cell? ⟨N,0,none⟩=some x0∧w.cell? ⟨N,1,none⟩=some x1∧w.cell? ⟨N,2,none⟩=some x2∧w.cell? ⟨N,3,none⟩=some x3∧w.cell? ⟨N,4,none⟩=some x4∧w.cell? ⟨N,5,none⟩=some x5∧∀j,w.frozen? ⟨N,j,none⟩=false:=by
 refine ⟨?_,?_,?_,?_,?_,?_,fun j=>?_⟩
 ·simp only [World.cell?,h];rfl
 ·simp only [World.cell?,h];rfl
 ·simp only [World.cell?,h];rfl
 ·simp only [World.cell?,h];rfl
 ·simp only [World.cell?,h];rfl
 ·simp only [World.cell?,h];rfl
 ·simp only [World.frozen?,h];simp
theorem Zu {w:World} {N:Nat} {x0 x1 x2 x3 x4 x5:Value} {ty:TypeId} (h:w.heap[N]?=some (.cells #[x0,x1,x2,x3,x4,x5] ty (0,0))) (a b c d e f:Value):(XB w N a b c d e f).heap[N]?=some (.cells #[a,b,c,d,e,f] ty (0,0)) :=
 zq f (zq e (zq d (zq c (zq b (zq a h)))))
theorem Yp (w:World) (N:Nat) (a b c d e f:Value) {k:Nat} (hk:k≠N):(XB w N a b c d e f).heap[k]?=w.heap[k]?:=by
 rw [Below.heap_setCell _ _ _ _ (by simpa using hk)];exact zu w N a b c d e hk
theorem xm {r:Nat} {w0 w:World} {N:Nat} (h:zd r w0 w) (hN:w0.heap.size≤N) (a b c d e f:Value):zd r w0 (XB w N a b c d e f) :=
 (ZN h hN a b c d e).setOther (p:=⟨N,5,none⟩) hN f
theorem ZH.of_set6 {r g o cap N B:Nat} {w w5:World} {us:List Tk} {es:List Ex} {body els:List St} {ve vb vl:Value} (k:Nat) (s:List UInt8) (line:Nat) (hK:zd r w w5) (hN:w.heap.size≤N) (hr:r<w.heap.size) (hg:g<w.heap.size)
  (he:zK (fun j=>B≤j) w5 es ve) (hb:z8 (fun j=>B≤j) w5 body vb) (hl:z8 (fun j=>B≤j) w5 els vl) (hB:N<B) (hrd:zg r g o cap us w5) :
  ZH r g w (.ok (.mk k s es body els line,us)) (.returned (.agg #[.int .i64 k,.string (zb s),ve,vb,vl,.int .i64 line])) (XB w5 N (.int .i64 k) (.string (zb s)) ve vb vl (.int .i64 line)):=by
 refine ⟨xm hK hN _ _ _ _ _ _,_,o,cap,rfl,?_,hrd.keep (Yp _ _ _ _ _ _ _ _ (by omega)) (Yp _ _ _ _ _ _ _ _ (by omega))⟩
 have y:w5.heap.size≤(XB w5 N (.int .i64 k) (.string (zb s)) ve vb vl (.int .i64 line)).heap.size:=by simp
 have h:∀j,B≤j→j<w5.heap.size→(XB w5 N (.int .i64 k) (.string (zb s)) ve vb vl (.int .i64 line)).heap[j]?=w5.heap[j]?:=fun j hj _=>Yp _ _ _ _ _ _ _ _ (by omega)
 exact yv.wide (yv.of k s line (he.kept y h) (hb.kept y h) (hl.kept y h)) fun j hj=>by omega
def QO (t t1:Tk) (res:PR Ex):PR St :=
 if t.k=1 then
  if zm t1 [61]=true then
   match res with
   | .error a=>.error a
   | .ok (e,us)=>if zm (zv us) [59]=true then .ok (.mk 1 t.s [e] [] [] 0,us.tail) else .error (zv us).at0
  else .error t1.at0
 else .error t.at0
theorem zhp (r g o cap:Nat) (t t1:Tk) (us1:List Tk) (w:World) (res:PR Ex) (h:zg r g o cap (t::t1::us1) w) (hE:zi (t::t1::us1)) (hEnd:∀l us,res=.ok (l,us)→zi us)
  (hex:t.k=1→zm t1 [61]=true→∀z o1 cap1,zg r g o1 cap1 us1 z→zd r w z→Calls Tryz.prog 44 #[.pointer (some ⟨r,0,none⟩)] z (zJ r g z res)) :
  Calls Tryz.prog 166 #[.pointer (some ⟨r,0,none⟩)] w (ZH r g w (QO t t1 res)):=by
 generalize hres:QO t t1 res=R;have hr:=h.lt.1;have ap:=h.lt.2;obtain ⟨w0,J⟩:∃w0,w0=w.alloc xw:=⟨_,rfl⟩;have h0:zg r g o cap (t::t1::us1) w0:=by rw [J];exact h.alloc _
 have k0:zd r w w0:=by rw [J];exact (zd.refl r w).alloc _
 have b0:w0.heap[w.heap.size]?=some xw:=by rw [J];exact World.alloc_heap_new _ _
 have ax:w0.heap.size=w.heap.size+1:=by rw [J];simp
 have cn:=xu r g o cap t (t1::us1) w0 h0 (fun _=>by simp)
 have ae:Hid (w0=w.alloc xw):=J
 unfold QO at hres
 clear h h0 J
 by_cases hk:t.k=1
 ·simp only [if_pos hk] at cn
  rw [if_pos hk] at hres;have an:=hE.tail (by omega:t.k≠0)
  go_enter Tryz.func166,Tryz.ntmps166
  go_wp2_with fail
  rw [←ae.out];refine cn.mono ?_;clear cn ae;rintro e z ⟨L,rfl,h1⟩;obtain ⟨w2,H⟩:∃w2,w2=z.alloc (.cells #[.int .i64 1,.string (zb t.s),.slice none 0 0,.slice none 0 0,.slice none 0 0,.int .i64 0] 108):=⟨_,rfl⟩;have h2:zg r g (o+5) (cap-1) (t1::us1) w2:=by rw [H];exact h1.alloc _
  have aB:=L.size;have b1:=(L.block _ (by omega) (by omega)).trans b0
  have b2:w2.heap[w.heap.size]?=some xw:=by rw [H];exact (Below.heap_alloc _ _ _ (by omega)).trans b1
  have bP:w2.heap[z.heap.size]?=some (.cells #[.int .i64 1,.string (zb t.s),.slice none 0 0,.slice none 0 0,.slice none 0 0,.int .i64 0] 108 (0,0)):=by rw [H];exact World.alloc_heap_new _ _
  have hP:z.heap.size<w2.heap.size:=(Array.getElem?_eq_some_iff.1 bP).1;have N:Hid (zd r w w2):=show zd _ _ _ by rw [H];exact (k0.trans L).alloc _
  have cd:=yJ r g (o+5) (cap-1) t1 us1 [61] w2 h2 (fun hi=>(an.tail (zj hi)).ne)
  have ah:Hid (w2=z.alloc (.cells #[.int .i64 1,.string (zb t.s),.slice none 0 0,.slice none 0 0,.slice none 0 0,.int .i64 0] 108)):=H;have HB:Hid (w2.heap[w.heap.size]?=some xw∧w2.heap[z.heap.size]?=some (.cells #[.int .i64 1,.string (zb t.s),.slice none 0 0,.slice none 0 0,.slice none 0 0,.int .i64 0] 108 (0,0))):=⟨b2,bP⟩;clear H h1 L b0 b1 b2 bP k0 h2
  by_cases hc:zm t1 [61]=true
  ·simp only [if_pos hc] at cd
   rw [if_pos hc] at hres;go_wp2_with fail
   rw [←ah.out];refine cd.mono ?_;clear cd ah;rintro e W ⟨O,rfl,h3⟩;have ct:=hex hk hc W _ _ h3 (N.out.trans O);have ak:Hid (zd r w2 W):=O;have av:=O.size;clear hex h3 O;go_wp2_with fail
   refine ct.mono ?_;clear ct;rintro e w4 ⟨af,G⟩;have I:zd r w2 w4:=ak.out.trans af;rcases res with a | ⟨x,us⟩
   ·simp only at G hres
    obtain rfl:=G;subst hres;exact ⟨rfl,N.out.trans I,rfl⟩
   ·obtain ⟨v,o4,Y,rfl,hx,am⟩:=G
    obtain ⟨xa,xb,xc,x0,x1,x2,xl,rfl⟩:=hx.agg;simp only at hres;have aj:=hEnd x us rfl;obtain ⟨t5,aa,rfl⟩:=aj.cons;simp only [zE,List.tail_cons] at hres;have ay:=N.out.size;have az:=I.size;have au:=af.size;have b4:=(I.block _ (by omega) (by omega)).trans HB.out.1
    have c4:=(I.block _ hP (by omega)).trans HB.out.2
    have ag:∀ob,(w4.alloc ob).heap[z.heap.size]?=some (.cells #[.int .i64 1,.string (zb t.s),.slice none 0 0,.slice none 0 0,.slice none 0 0,.int .i64 0] 108 (0,0)):=fun ob=>(Below.heap_alloc _ _ _ (by omega)).trans c4
    obtain ⟨-,-,g2,-,-,-,gf⟩:=zM c4;have aw:=zl g2;have aA:w4.frozen? ⟨z.heap.size,2,none⟩=false:=gf 2;have ar:∀ob,(w4.alloc ob).frozen? ⟨z.heap.size,2,none⟩=false:=fun ob=>(zM (ag ob)).2.2.2.2.2.2 2
    have ao:z.heap.size<w4.heap.size:=by omega
    obtain ⟨w5,ai⟩:∃w5,w5=(w4.setCell ⟨z.heap.size,2,none⟩ (.slice (some ⟨w4.heap.size,0,none⟩) 1 1)).alloc (.cells #[.int .i64 xa,.string xb,.int .i64 xc,.slice x0 x1 x2,.int .i64 xl] 45):=⟨_,rfl⟩;have A:w5=(w4.alloc (.cells #[.int .i64 xa,.string xb,.int .i64 xc,.slice x0 x1 x2,.int .i64 xl] 45)).setCell ⟨z.heap.size,2,none⟩ (.slice (some ⟨w4.heap.size,0,none⟩) 1 1):=by rw [ai,World.setCell_alloc_past _ _ _ _ ao]
    have y:∀k,k≠z.heap.size→w5.heap[k]?=(w4.alloc (.cells #[.int .i64 xa,.string xb,.int .i64 xc,.slice x0 x1 x2,.int .i64 xl] 45)).heap[k]?:=fun k hk=>by rw [A];exact Below.heap_setCell _ _ _ _ (by simpa using hk)
    have c5:w5.heap[z.heap.size]?=some (.cells #[.int .i64 1,.string (zb t.s),.slice (some ⟨w4.heap.size,0,none⟩) 1 1,.slice none 0 0,.slice none 0 0,.int .i64 0] 108 (0,0)):=by rw [A];exact zq _ (ag _)
    have b5:=(y w.heap.size (by omega)).trans ((Below.heap_alloc _ _ _ (by omega)).trans b4)
    have k5:zd r w w5:=by rw [A];exact ((N.out.trans I).alloc _).setOther (by simp;omega) _
    have Z:zg r g o4 Y (t5::aa) w5:=(am.alloc (.cells #[.int .i64 xa,.string xb,.int .i64 xc,.slice x0 x1 x2,.int .i64 xl] 45)).keep (y r (by omega)) (y g (by omega))
    have Q:=zK.one (S:=fun k=>W.heap.size≤k) 45 (c:=[.int .i64 xa,.string xb,.int .i64 xc,.slice x0 x1 x2,.int .i64 xl]) hx rfl (by omega)
    have T:zK (fun k=>W.heap.size≤k) w5 [x] (.slice (some ⟨w4.heap.size,0,none⟩) 1 1):=Q.kept (by rw [A];simp) fun k hk _=>y k (by omega)
    have al:=ai.symm;have ce:=yJ r g o4 Y t5 aa [59] w5 Z (fun hi=>(aj.tail (zj hi)).ne)
    have ab:Hid (zd r w w5):=k5;have V:Hid (zK (fun k=>W.heap.size≤k) w5 [x] (.slice (some ⟨w4.heap.size,0,none⟩) 1 1)):=T
    have ad:Hid (w5.heap[w.heap.size]?=some xw∧w5.heap[z.heap.size]?=some (.cells #[.int .i64 1,.string (zb t.s),.slice (some ⟨w4.heap.size,0,none⟩) 1 1,.slice none 0 0,.slice none 0 0,.int .i64 0] 108 (0,0))):=⟨b5,c5⟩;have aq:z.heap.size<w5.heap.size:=(Array.getElem?_eq_some_iff.1 c5).1;clear ai A y b4 c4 ag c5 b5 k5 Z am gf af I HB N ak hx Q T
    by_cases hm:zm t5 [59]=true
    ·simp only [if_pos hm] at ce
     rw [if_pos hm] at hres;subst hres;go_wp2_with fail
     refine ce.mono ?_;clear ce al;rintro e w6 ⟨D,rfl,h6⟩;have b6:=(D.block _ (by omega) (by omega)).trans ad.out.1
     have c6:=(D.block _ aq (by omega)).trans ad.out.2
     obtain ⟨e0,e1,e2,e3,e4,e5,-⟩:=zM c6;obtain ⟨q0,q1,q2,q3,q4,q5,qf⟩:=zM b6;obtain ⟨z0,z1,z2,z3,z4,z5,-⟩:=zM (Zu b6 (.int .i64 1) (.string (zb t.s)) (.slice (some ⟨w4.heap.size,0,none⟩) 1 1) (.slice none 0 0) (.slice none 0 0) (.int .i64 0));have U:zK (fun k=>W.heap.size≤k) w6 [x] (.slice (some ⟨w4.heap.size,0,none⟩) 1 1):=V.out.kept D.size fun k hk hlt=>D.block k hlt (by omega)
     have HP:Hid (ZH r g w (.ok (.mk 1 t.s [x] [] [] 0,aa)) (.returned (.agg #[.int .i64 1,.string (zb t.s),.slice (some ⟨w4.heap.size,0,none⟩) 1 1,.slice none 0 0,.slice none 0 0,.int .i64 0])) (XB w6 w.heap.size (.int .i64 1) (.string (zb t.s)) (.slice (some ⟨w4.heap.size,0,none⟩) 1 1) (.slice none 0 0) (.slice none 0 0) (.int .i64 0))) :=
      ZH.of_set6 (B:=W.heap.size) 1 t.s 0 (ab.out.trans D) (Nat.le_refl _) hr ap U (z8.nil _ _) (z8.nil _ _) (by omega) h6
     clear b6 c6 U D h6 ad V ab;go_wp2
     exact bodyPost_ret (v:=.agg #[.int .i64 1,.string (zb t.s),.slice (some ⟨w4.heap.size,0,none⟩) 1 1,.slice none 0 0,.slice none 0 0,.int .i64 0]) (by simp [results,Tryz.results166,go_sem,z0,z1,z2,z3,z4,z5]) rfl HP.out
    ·simp only [if_neg hm] at ce
     rw [if_neg hm] at hres;subst hres;go_wp2_with fail
     refine ce.mono ?_;clear ce;rintro e w6 ⟨D,rfl⟩;exact ⟨rfl,ab.out.trans D,rfl⟩
  ·simp only [if_neg hc] at cd
   rw [if_neg hc] at hres;subst hres;go_wp2_with fail
   rw [←ah.out];refine cd.mono ?_;clear cd;rintro e W ⟨O,rfl⟩;exact ⟨rfl,N.out.trans O,rfl⟩
 ·simp only [if_neg hk] at cn
  rw [if_neg hk] at hres;subst hres
  go_enter Tryz.func166,Tryz.ntmps166
  go_wp2_with fail
  rw [←ae.out];refine cn.mono ?_;clear cn;rintro e z ⟨L,rfl⟩;exact ⟨rfl,k0.trans L,rfl⟩
def xf (t:Tk) (ts:List Tk) (res:PR Ex):PR St :=
 if zm t [59]=true then .ok (.mk 6 [] [] [] [] 0,ts) else
 match res with
 | .error a=>.error a
 | .ok (e,us)=>if zm (zv us) [59]=true then .ok (.mk 6 [] [e] [] [] 0,us.tail) else .error (zv us).at0
theorem zaT (r g o cap:Nat) (t:Tk) (ts:List Tk) (w:World) (res:PR Ex) (h:zg r g o cap (t::ts) w) (hE:zi (t::ts)) (hEnd:∀l us,res=.ok (l,us)→zi us)
  (hex:zm t [59]=false→∀w1 o1 cap1,zg r g o1 cap1 (t::ts) w1→zd r w w1→Calls Tryz.prog 44 #[.pointer (some ⟨r,0,none⟩)] w1 (zJ r g w1 res)) :
  Calls Tryz.prog 168 #[.pointer (some ⟨r,0,none⟩)] w (ZH r g w (xf t ts res)):=by
 generalize hres:xf t ts res=R;have hr:=h.lt.1;have ag:=h.lt.2;obtain ⟨w2,H⟩:∃w2,w2=(w.alloc xw).alloc (.cells #[.int .i64 6,.string ⟨#[]⟩,.slice none 0 0,.slice none 0 0,.slice none 0 0,.int .i64 0] 108):=⟨_,rfl⟩;have h2:zg r g o cap (t::ts) w2:=by rw [H];exact (h.alloc _).alloc _
 have k2:zd r w w2:=by rw [H];exact ((zd.refl r w).alloc _).alloc _
 have b2:w2.heap[w.heap.size]?=some xw:=by rw [H,Below.heap_alloc _ _ _ (by simp)];exact World.alloc_heap_new _ _
 have bP:w2.heap[w.heap.size+1]?=some (.cells #[.int .i64 6,.string ⟨#[]⟩,.slice none 0 0,.slice none 0 0,.slice none 0 0,.int .i64 0] 108 (0,0)):=by
  rw [H]
  have:=World.alloc_heap_new (w.alloc xw) (.cells #[.int .i64 6,.string ⟨#[]⟩,.slice none 0 0,.slice none 0 0,.slice none 0 0,.int .i64 0] 108)
  simpa using this
 have hP:w.heap.size+1<w2.heap.size:=(Array.getElem?_eq_some_iff.1 bP).1;have G:Hid (zd r w w2):=k2;have Q:Hid (w2=(w.alloc xw).alloc (.cells #[.int .i64 6,.string ⟨#[]⟩,.slice none 0 0,.slice none 0 0,.slice none 0 0,.int .i64 0] 108)):=H;have HB:Hid (w2.heap[w.heap.size]?=some xw∧w2.heap[w.heap.size+1]?=some (.cells #[.int .i64 6,.string ⟨#[]⟩,.slice none 0 0,.slice none 0 0,.slice none 0 0,.int .i64 0] 108 (0,0))):=⟨b2,bP⟩;have cs:=Zx r g o cap t ts [59] w2 h2 (fun hi=>(hE.tail (zj hi)).ne)
 unfold xf at hres
 clear h H h2 k2 b2 bP
 by_cases hi:zm t [59]=true
 ·rw [hi] at cs
  rw [if_pos hi] at hres;subst hres;clear hex hEnd
  go_enter Tryz.func168,Tryz.ntmps168
  go_wp2_with fail
  rw [←Q.out];refine cs.mono ?_;clear cs Q;rintro e w6 ⟨rfl,y,ae⟩;have h6:zg r g (o+5) (cap-1) ts w6:=by simpa using ae
  have b6:=(y.block _ (by omega) (by omega)).trans HB.out.1
  have c6:=(y.block _ hP (by omega)).trans HB.out.2
  obtain ⟨e0,e1,e2,e3,e4,e5,-⟩:=zM c6;obtain ⟨q0,q1,q2,q3,q4,q5,qf⟩:=zM b6;obtain ⟨z0,z1,z2,z3,z4,z5,-⟩:=zM (Zu b6 (.int .i64 6) (.string ⟨#[]⟩) (.slice none 0 0) (.slice none 0 0) (.slice none 0 0) (.int .i64 0))
  have HP:Hid (ZH r g w (.ok (.mk 6 [] [] [] [] 0,ts)) (.returned (.agg #[.int .i64 6,.string ⟨#[]⟩,.slice none 0 0,.slice none 0 0,.slice none 0 0,.int .i64 0])) (XB w6 w.heap.size (.int .i64 6) (.string ⟨#[]⟩) (.slice none 0 0) (.slice none 0 0) (.slice none 0 0) (.int .i64 0))) :=
   ZH.of_set6 (B:=w.heap.size+1) 6 [] 0 (G.out.trans y) (Nat.le_refl _) hr ag (.inl ⟨rfl,rfl⟩) (z8.nil _ _) (z8.nil _ _) (Nat.lt_succ_self _) h6
  clear b6 c6 y h6 ae HB G;go_wp2
  exact bodyPost_ret (v:=.agg #[.int .i64 6,.string ⟨#[]⟩,.slice none 0 0,.slice none 0 0,.slice none 0 0,.int .i64 0]) (by simp [results,Tryz.results168,go_sem,z0,z1,z2,z3,z4,z5]) rfl HP.out
 ·have al:zm t [59]=false:=by simpa using hi
  rw [al] at cs;rw [if_neg hi] at hres
  go_enter Tryz.func168,Tryz.ntmps168
  go_wp2_with fail
  rw [←Q.out];refine cs.mono ?_;clear cs Q;rintro e w3 ⟨rfl,O,ai⟩;have h3:zg r g o cap (t::ts) w3:=by simpa using ai
  have ct:=hex al w3 _ _ h3 (G.out.trans O);have ah:Hid (zd r w2 w3):=O;have aq:=O.size;clear hex h3 ai O;go_wp2_with fail
  refine ct.mono ?_;clear ct;rintro e w4 ⟨aa,D⟩;have I:zd r w2 w4:=ah.out.trans aa;rcases res with a | ⟨x,us⟩
  ·simp only at D hres
   obtain rfl:=D;subst hres;exact ⟨rfl,G.out.trans I,rfl⟩
  ·obtain ⟨v,o4,U,rfl,hx,ak⟩:=D
   obtain ⟨xa,xb,xc,x0,x1,x2,xl,rfl⟩:=hx.agg;simp only at hres;have af:=hEnd x us rfl;obtain ⟨t5,W,rfl⟩:=af.cons;simp only [zE,List.tail_cons] at hres;have au:=G.out.size;have av:=I.size;have ap:=aa.size;have b4:=(I.block _ (by omega) (by omega)).trans HB.out.1
   have c4:=(I.block _ hP (by omega)).trans HB.out.2
   have ab:∀ob,(w4.alloc ob).heap[w.heap.size+1]?=some (.cells #[.int .i64 6,.string ⟨#[]⟩,.slice none 0 0,.slice none 0 0,.slice none 0 0,.int .i64 0] 108 (0,0)):=fun ob=>(Below.heap_alloc _ _ _ (by omega)).trans c4
   obtain ⟨-,-,g2,-,-,-,gf⟩:=zM c4;have ar:=zl g2;have aw:w4.frozen? ⟨w.heap.size+1,2,none⟩=false:=gf 2;have ao:∀ob,(w4.alloc ob).frozen? ⟨w.heap.size+1,2,none⟩=false:=fun ob=>(zM (ab ob)).2.2.2.2.2.2 2
   have am:w.heap.size+1<w4.heap.size:=by omega
   obtain ⟨w5,ad⟩:∃w5,w5=(w4.setCell ⟨w.heap.size+1,2,none⟩ (.slice (some ⟨w4.heap.size,0,none⟩) 1 1)).alloc (.cells #[.int .i64 xa,.string xb,.int .i64 xc,.slice x0 x1 x2,.int .i64 xl] 45):=⟨_,rfl⟩;have A:w5=(w4.alloc (.cells #[.int .i64 xa,.string xb,.int .i64 xc,.slice x0 x1 x2,.int .i64 xl] 45)).setCell ⟨w.heap.size+1,2,none⟩ (.slice (some ⟨w4.heap.size,0,none⟩) 1 1):=by rw [ad,World.setCell_alloc_past _ _ _ _ am]
   have z:∀k,k≠w.heap.size+1→w5.heap[k]?=(w4.alloc (.cells #[.int .i64 xa,.string xb,.int .i64 xc,.slice x0 x1 x2,.int .i64 xl] 45)).heap[k]?:=fun k hk=>by rw [A];exact Below.heap_setCell _ _ _ _ (by simpa using hk)
   have c5:w5.heap[w.heap.size+1]?=some (.cells #[.int .i64 6,.string ⟨#[]⟩,.slice (some ⟨w4.heap.size,0,none⟩) 1 1,.slice none 0 0,.slice none 0 0,.int .i64 0] 108 (0,0)):=by rw [A];exact zq _ (ab _)
   have b5:=(z w.heap.size (by omega)).trans ((Below.heap_alloc _ _ _ (by omega)).trans b4)
   have k5:zd r w w5:=by rw [A];exact ((G.out.trans I).alloc _).setOther (by simp) _
   have V:zg r g o4 U (t5::W) w5:=(ak.alloc (.cells #[.int .i64 xa,.string xb,.int .i64 xc,.slice x0 x1 x2,.int .i64 xl] 45)).keep (z r (by omega)) (z g (by omega))
   have J:=zK.one (S:=fun k=>w3.heap.size≤k) 45 (c:=[.int .i64 xa,.string xb,.int .i64 xc,.slice x0 x1 x2,.int .i64 xl]) hx rfl (by omega)
   have L:zK (fun k=>w3.heap.size≤k) w5 [x] (.slice (some ⟨w4.heap.size,0,none⟩) 1 1):=J.kept (by rw [A];simp) fun k hk _=>z k (by omega)
   have aj:=ad.symm;have ce:=yJ r g o4 U t5 W [59] w5 V (fun hi=>(af.tail (zj hi)).ne)
   have Y:Hid (zd r w w5):=k5;have T:Hid (zK (fun k=>w3.heap.size≤k) w5 [x] (.slice (some ⟨w4.heap.size,0,none⟩) 1 1)):=L
   have Z:Hid (w5.heap[w.heap.size]?=some xw∧w5.heap[w.heap.size+1]?=some (.cells #[.int .i64 6,.string ⟨#[]⟩,.slice (some ⟨w4.heap.size,0,none⟩) 1 1,.slice none 0 0,.slice none 0 0,.int .i64 0] 108 (0,0))):=⟨b5,c5⟩;have an:w.heap.size+1<w5.heap.size:=(Array.getElem?_eq_some_iff.1 c5).1;clear ad A z b4 c4 ab c5 b5 k5 V ak gf aa I HB G ah hx J L
   by_cases hm:zm t5 [59]=true
   ·simp only [if_pos hm] at ce
    rw [if_pos hm] at hres;subst hres;go_wp2_with fail
    refine ce.mono ?_;clear ce aj;rintro e w6 ⟨y,rfl,h6⟩;have b6:=(y.block _ (by omega) (by omega)).trans Z.out.1
    have c6:=(y.block _ an (by omega)).trans Z.out.2
    obtain ⟨e0,e1,e2,e3,e4,e5,-⟩:=zM c6;obtain ⟨q0,q1,q2,q3,q4,q5,qf⟩:=zM b6;obtain ⟨z0,z1,z2,z3,z4,z5,-⟩:=zM (Zu b6 (.int .i64 6) (.string ⟨#[]⟩) (.slice (some ⟨w4.heap.size,0,none⟩) 1 1) (.slice none 0 0) (.slice none 0 0) (.int .i64 0));have N:zK (fun k=>w3.heap.size≤k) w6 [x] (.slice (some ⟨w4.heap.size,0,none⟩) 1 1):=T.out.kept y.size fun k hk hlt=>y.block k hlt (by omega)
    have HP:Hid (ZH r g w (.ok (.mk 6 [] [x] [] [] 0,W)) (.returned (.agg #[.int .i64 6,.string ⟨#[]⟩,.slice (some ⟨w4.heap.size,0,none⟩) 1 1,.slice none 0 0,.slice none 0 0,.int .i64 0])) (XB w6 w.heap.size (.int .i64 6) (.string ⟨#[]⟩) (.slice (some ⟨w4.heap.size,0,none⟩) 1 1) (.slice none 0 0) (.slice none 0 0) (.int .i64 0))) :=
     ZH.of_set6 (B:=w3.heap.size) 6 [] 0 (Y.out.trans y) (Nat.le_refl _) hr ag N (z8.nil _ _) (z8.nil _ _) (by omega) h6
    clear b6 c6 N y h6 Z T Y;go_wp2
    exact bodyPost_ret (v:=.agg #[.int .i64 6,.string ⟨#[]⟩,.slice (some ⟨w4.heap.size,0,none⟩) 1 1,.slice none 0 0,.slice none 0 0,.int .i64 0]) (by simp [results,Tryz.results168,go_sem,z0,z1,z2,z3,z4,z5]) rfl HP.out
   ·simp only [if_neg hm] at ce
    rw [if_neg hm] at hres;subst hres;go_wp2_with fail
    refine ce.mono ?_;clear ce;rintro e w6 ⟨y,rfl⟩;exact ⟨rfl,Y.out.trans y,rfl⟩
end Go.Proofs.YtpejpbbdgblbeaaGreatDoor
