import Derived.Test.YtcphojjpapgblaaGreatDoorMC20
import Derived.Test.YtcphojjpapgblaaGreatDoorMC16
import Derived.Test.YtcphojjpapgblaaGreatDoorMC13
namespace Go.Proofs.YtcphojjpapgblaaGreatDoor
open Go.RowKit Go.Shelf
set_option maxHeartbeats 16000000
set_option maxRecDepth 100000
structure Rc where
 name:List UInt8
 fields:List Pm
 line:Nat
def xO (line:Nat) (t t1:Tk) (res:PR (List Pm)):PR Rc :=
 if t.k=1 then
  if zm t1 [123]=true then
   match res with
   | .error a=>.error a
   | .ok (l,us)=>if zm (zu us) [125]=true then .ok (⟨t.s,l,line⟩,us.tail) else .error (zu us).at0
  else .error t1.at0
 else .error t.at0
abbrev rcZ:Obj:=.cells #[.string ⟨#[]⟩,.slice none 0 0,.int .i64 0] 73
def XX (r g:Nat) (w:World) (res:PR Rc) (e:Ending) (w':World):Prop :=
 zc r w w'∧match res with
  | .error a=>e=ZG a
  | .ok (x,ts)=>∃v o cap,e=.returned (.agg #[.string (zb x.name),v,.int .i64 x.line])∧ZU w.heap.size w' x.fields v∧zf r g o cap ts w'
theorem Q3 {w:World} {N:Nat} {x0 x1 x2:Value} {ty:TypeId} (h:w.heap[N]?=some (.cells #[x0,x1,x2] ty (0,0))) :
  w.cell? ⟨N,0,none⟩=some x0∧w.cell? ⟨N,1,none⟩=some x1∧w.cell? ⟨N,2,none⟩=some x2∧∀j,w.frozen? ⟨N,j,none⟩=false:=by
 refine ⟨?_,?_,?_,fun j=>?_⟩
 ·simp only [World.cell?,h];rfl
 ·simp only [World.cell?,h];rfl
 ·simp only [World.cell?,h];rfl
 ·simp only [World.frozen?,h];simp
theorem ZU.slice {B:Nat} {w:World} {l:List Pm} {v:Value} (h:ZU B w l v):∃d0 d1 d2,v=.slice d0 d1 d2:=by
 rcases h with ⟨_,rfl⟩ | ⟨g,o,y,h⟩
 ·exact ⟨_,_,_,rfl⟩
 ·exact ⟨_,_,_,h.val⟩
theorem za6 (r g o cap line:Nat) (t t1:Tk) (us1:List Tk) (w:World) (res:PR (List Pm)) (h:zf r g o cap (t::t1::us1) w) (hE:zi (t::t1::us1)) (hEnd:∀l us,res=.ok (l,us)→zi us)
  (hrow:t.k=1→zm t1 [123]=true→∀A o1 X,zf r g o1 X us1 A→zc r w A→Calls Tryz.prog 94 #[.pointer (some ⟨r,0,none⟩),.func (.func 95) #[.pointer (some ⟨r,0,none⟩)] #[]] A (za5 r g A res)) :
  Calls Tryz.prog 51 #[.pointer (some ⟨r,0,none⟩),.int .i64 line] w (XX r g w (xO line t t1 res)):=by
 generalize hres:xO line t t1 res=R;have aB:∀(fn:Fn) (first cap:Array Value) (w:World),(Instr.makeFunc fn first cap).run Tryz.prog w=.ok (.func fn first cap) w:=fun _ _ _ _=>rfl
 have hr:=h.lt.1;have av:=h.lt.2;obtain ⟨w0,I⟩:∃w0,w0=w.alloc rcZ:=⟨_,rfl⟩;have h0:zf r g o cap (t::t1::us1) w0:=by rw [I];exact h.alloc _
 have k0:zc r w w0:=by rw [I];exact (zc.refl r w).alloc _
 have b0:w0.heap[w.heap.size]?=some rcZ:=by rw [I];exact World.alloc_heap_new _ _
 have aw:w0.heap.size=w.heap.size+1:=by rw [I];simp
 have cn:=xu r g o cap t (t1::us1) w0 h0 (fun _=>by simp)
 have ai:Hid (w0=w.alloc rcZ):=I
 unfold xO at hres
 clear h h0 I
 by_cases hk:t.k=1
 ·simp only [if_pos hk] at cn
  rw [if_pos hk] at hres;have au:=hE.tail (by omega:t.k≠0)
  go_enter Tryz.func51,Tryz.ntmps51
  go_wp2_with fail
  rw [←ai.out];refine cn.mono ?_;clear cn ai;rintro e A ⟨O,rfl,h1⟩;obtain ⟨w2,H⟩:∃w2,w2=A.alloc (.cells #[.string (zb t.s),.slice none 0 0,.int .i64 line] 73):=⟨_,rfl⟩;have h2:zf r g (o+5) (cap-1) (t1::us1) w2:=by rw [H];exact h1.alloc _
  have aA:=O.size;have b1:=(O.block _ (by omega) (by omega)).trans b0
  have b2:w2.heap[w.heap.size]?=some rcZ:=by rw [H];exact (Below.heap_alloc _ _ _ (by omega)).trans b1
  have bP:w2.heap[A.heap.size]?=some (.cells #[.string (zb t.s),.slice none 0 0,.int .i64 line] 73 (0,0)):=by rw [H];exact World.alloc_heap_new _ _
  have hP:A.heap.size<w2.heap.size:=(Array.getElem?_eq_some_iff.1 bP).1;have L:Hid (zc r w w2):=show zc _ _ _ by rw [H];exact (k0.trans O).alloc _
  have cd:=yI r g (o+5) (cap-1) t1 us1 [123] w2 h2 (fun hi=>(au.tail (zk hi)).ne)
  have ah:Hid (w2=A.alloc (.cells #[.string (zb t.s),.slice none 0 0,.int .i64 line] 73)):=H;have HB:Hid (w2.heap[w.heap.size]?=some rcZ∧w2.heap[A.heap.size]?=some (.cells #[.string (zb t.s),.slice none 0 0,.int .i64 line] 73 (0,0))):=⟨b2,bP⟩;clear H h1 O b0 b1 b2 bP k0 h2
  by_cases hc:zm t1 [123]=true
  ·simp only [if_pos hc] at cd
   rw [if_pos hc] at hres;go_wp2_with fail
   rw [←ah.out];refine cd.mono ?_;clear cd ah;rintro e w3 ⟨J,rfl,h3⟩;have ct:=hrow hk hc w3 _ _ h3 (L.out.trans J);have ak:Hid (zc r w2 w3):=J;have aD:=J.size;clear hrow h3 J;go_wp2_with fail
   refine ct.mono ?_;clear ct;rintro e w4 ⟨aj,D⟩;have G:zc r w2 w4:=ak.out.trans aj;rcases res with a | ⟨l,us⟩
   ·simp only at D hres
    obtain rfl:=D;subst hres;exact ⟨rfl,L.out.trans G,rfl⟩
   ·obtain ⟨v,g1,X,ap,o4,aa,rfl,al,an⟩:=D
    simp only at hres;have V:ZU w3.heap.size w4 l v:=.inr ⟨g1,X,ap,al⟩;obtain ⟨Q,T,U,rfl⟩:=V.slice;have ao:=hEnd l us rfl;obtain ⟨t5,ag,rfl⟩:=ao.cons;simp only [zC,List.tail_cons] at hres;have aC:=L.out.size;have ax:=G.size;have b4:=(G.block _ (by omega) (by omega)).trans HB.out.1
    have c4:=(G.block _ hP (by omega)).trans HB.out.2
    obtain ⟨-,ay,-,gf⟩:=Q3 c4;have az:=gf 1;obtain ⟨w5,N⟩:∃w5,w5=w4.setCell ⟨A.heap.size,1,none⟩ (.slice Q T U):=⟨_,rfl⟩;have y:∀k,k≠A.heap.size→w5.heap[k]?=w4.heap[k]?:=fun k hk=>by rw [N];exact Below.heap_setCell _ _ _ _ (by simpa using hk)
    have c5:w5.heap[A.heap.size]?=some (.cells #[.string (zb t.s),.slice Q T U,.int .i64 line] 73 (0,0)):=by rw [N];exact zo _ c4
    have b5:=(y w.heap.size (by omega)).trans b4
    have ar:w4.heap.size≤w5.heap.size:=by rw [N];simp
    have k5:zc r w w5:=by rw [N];exact (L.out.trans G).setOther (by simp;omega) _
    have ab:zf r g o4 aa (t5::ag) w5:=an.keep (y r (by omega)) (y g (by omega))
    have W:ZU w3.heap.size w5 l (.slice Q T U):=V.kept ar fun k hB _=>y k (by omega)
    have am:=N.symm;have ce:=yI r g o4 aa t5 ag [125] w5 ab (fun hi=>(ao.tail (zk hi)).ne)
    have af:Hid (zc r w w5):=k5;have ad:Hid (ZU w3.heap.size w5 l (.slice Q T U)):=W;have ae:Hid (w5.heap[w.heap.size]?=some rcZ∧w5.heap[A.heap.size]?=some (.cells #[.string (zb t.s),.slice Q T U,.int .i64 line] 73 (0,0))):=⟨b5,c5⟩;have aq:A.heap.size<w5.heap.size:=(Array.getElem?_eq_some_iff.1 c5).1;clear N y b4 c4 c5 b5 k5 ab an gf aj G HB L ak V W al
    by_cases hm:zm t5 [125]=true
    ·simp only [if_pos hm] at ce
     rw [if_pos hm] at hres;subst hres;go_wp2_with fail
     refine ce.mono ?_;clear ce am;rintro e w6 ⟨z,rfl,h6⟩;have b6:=(z.block _ (by omega) (by omega)).trans ae.out.1
     have c6:=(z.block _ aq (by omega)).trans ae.out.2
     obtain ⟨e0,e1,e2,-⟩:=Q3 c6;obtain ⟨q0,q1,q2,qf⟩:=Q3 b6;have b7:=zo (j:=2) (.int .i64 line) (zo (j:=1) (.slice Q T U) (zo (j:=0) (.string (zb t.s)) b6));obtain ⟨z0,z1,z2,-⟩:=Q3 (x0:=.string (zb t.s)) (x1:=.slice Q T U) (x2:=.int .i64 line) b7;have Y:ZU w3.heap.size w6 l (.slice Q T U):=ad.out.kept z.size fun k hB hlt=>z.block k hlt (by omega)
     have k6:zc r w w6:=af.out.trans z
     have Z:∀k,k≠w.heap.size→(((w6.setCell ⟨w.heap.size,0,none⟩ (.string (zb t.s))).setCell ⟨w.heap.size,1,none⟩ (.slice Q T U)).setCell ⟨w.heap.size,2,none⟩ (.int .i64 line)).heap[k]?=w6.heap[k]?:=fun k hk=>by
      rw [Below.heap_setCell _ _ _ _ (by simpa using hk),Below.heap_setCell _ _ _ _ (by simpa using hk),Below.heap_setCell _ _ _ _ (by simpa using hk)]
     have HP:Hid (XX r g w (.ok (⟨t.s,l,line⟩,ag)) (.returned (.agg #[.string (zb t.s),.slice Q T U,.int .i64 line])) (((w6.setCell ⟨w.heap.size,0,none⟩ (.string (zb t.s))).setCell ⟨w.heap.size,1,none⟩ (.slice Q T U)).setCell ⟨w.heap.size,2,none⟩ (.int .i64 line))):=by
      refine ⟨((k6.setOther (p:=⟨w.heap.size,0,none⟩) (by simp) _).setOther (p:=⟨w.heap.size,1,none⟩) (by simp) _).setOther (p:=⟨w.heap.size,2,none⟩) (by simp) _,_,_,_,rfl,?_,h6.keep (Z r (by omega)) (Z g (by omega))⟩
      exact (Y.kept (by simp) fun k hB _=>Z k (by omega)).mono (by omega)
     clear b6 c6 b7 Y k6 Z z h6 ae ad af;go_wp2
     exact bodyPost_ret (v:=.agg #[.string (zb t.s),.slice Q T U,.int .i64 line]) (by simp [results,Tryz.results51,go_sem,z0,z1,z2]) rfl HP.out
    ·simp only [if_neg hm] at ce
     rw [if_neg hm] at hres;subst hres;go_wp2_with fail
     refine ce.mono ?_;clear ce;rintro e w6 ⟨z,rfl⟩;exact ⟨rfl,af.out.trans z,rfl⟩
  ·simp only [if_neg hc] at cd
   rw [if_neg hc] at hres;subst hres;go_wp2_with fail
   rw [←ah.out];refine cd.mono ?_;clear cd;rintro e w3 ⟨J,rfl⟩;exact ⟨rfl,L.out.trans J,rfl⟩
 ·simp only [if_neg hk] at cn
  rw [if_neg hk] at hres;subst hres
  go_enter Tryz.func51,Tryz.ntmps51
  go_wp2_with fail
  rw [←ai.out];refine cn.mono ?_;clear cn;rintro e A ⟨O,rfl⟩;exact ⟨rfl,k0.trans O,rfl⟩
inductive St where
 | mk (k:Nat) (s:List UInt8) (es:List Ex) (body els:List St) (line:Nat)
def xP (S:Nat→Prop) (w:World) (l:List St) (v:Value) (g cap:Nat) (us:List (List Value)):Prop :=
 (l=[]∧v=.slice none 0 0)∨(v=.slice (some ⟨g,0,none⟩) l.length cap∧l≠[]∧us.length=l.length∧S g∧g<w.heap.size∧l.length≤cap∧cap≤maxLen∧(∀j u,us.flatten[j]?=some u→w.cell? ⟨g,j,none⟩=some u)∧∀c∈us,c.length=6)
theorem xP.kept {S:Nat→Prop} {w w':World} {l:List St} {v:Value} {g cap:Nat} {us:List (List Value)} (h:xP S w l v g cap us) (hs:w.heap.size≤w'.heap.size) (hb:∀k,S k→k<w.heap.size→w'.heap[k]?=w.heap[k]?):xP S w' l v g cap us:=by
 rcases h with h | ⟨H,z,J,y,o,A,D,I,G⟩
 ·exact .inl h
 ·refine .inr ⟨H,z,J,y,Nat.lt_of_lt_of_le o hs,A,D,fun j u hj=>?_,G⟩
  rw [World.cell?_of_block (hb g y o)];exact I j u hj
theorem xP.wide {S S':Nat→Prop} {w:World} {l:List St} {v:Value} {g cap:Nat} {us:List (List Value)} (h:xP S w l v g cap us) (hS:∀k,S k→S' k):xP S' w l v g cap us:=by
 rcases h with h | ⟨D,o,J,I,H,y,z,G,A⟩
 ·exact .inl h
 ·exact .inr ⟨D,o,J,hS _ I,H,y,z,G,A⟩
theorem xP.low {S:Nat→Prop} {w:World} {l:List St} {v:Value} {g cap:Nat} {us:List (List Value)} (h:xP S w l v g cap us):xP (fun k=>S k∧k<w.heap.size) w l v g cap us:=by
 rcases h with h | ⟨G,y,J,I,o,z,A,H,D⟩
 ·exact .inl h
 ·exact .inr ⟨G,y,J,⟨I,o⟩,o,z,A,H,D⟩
theorem zK.lower {S:Nat→Prop} {w:World} {l:List Ex} {v:Value} (h:zK S w l v):zK (fun k=>S k∧k<w.heap.size) w l v:=zK.low h
inductive yo (S:Nat→Prop) (w:World):St→Value→Prop where
 | mk (k:Nat) (s:List UInt8) (es:List Ex) (body els:List St) (line:Nat) (ve vb vl:Value) (gb cb gl cl:Nat) (ub ul:List (List Value)) (he:zK S w es ve)
   (hb:xP S w body vb gb cb ub) (hbk:∀(j:Nat) (x:St) (c:List Value),body[j]?=some x→ub[j]?=some c→yo S w x (.agg c.toArray))
   (hl:xP S w els vl gl cl ul) (hlk:∀(j:Nat) (x:St) (c:List Value),els[j]?=some x→ul[j]?=some c→yo S w x (.agg c.toArray)) :
   yo S w (.mk k s es body els line) (.agg #[.int .i64 k,.string (zb s),ve,vb,vl,.int .i64 line])
theorem yo.kept {S:Nat→Prop} {w w':World} {x:St} {v:Value} (h:yo S w x v) (hs:w.heap.size≤w'.heap.size) (hb:∀k,S k→k<w.heap.size→w'.heap[k]?=w.heap[k]?):yo S w' x v:=by
 induction h with
 | mk k s es body els line ve vb vl gb cb gl cl ub ul he hbr hbk hl hlk ih1 ih2 =>
  exact .mk k s es body els line ve vb vl gb cb gl cl ub ul (he.kept hs hb) (hbr.kept hs hb) ih1 (hl.kept hs hb) ih2
theorem yo.wide {S S':Nat→Prop} {w:World} {x:St} {v:Value} (h:yo S w x v) (hS:∀k,S k→S' k):yo S' w x v:=by
 induction h with
 | mk k s es body els line ve vb vl gb cb gl cl ub ul he hbr hbk hl hlk ih1 ih2 =>
  exact .mk k s es body els line ve vb vl gb cb gl cl ub ul (he.wide hS) (hbr.wide hS) ih1 (hl.wide hS) ih2
theorem yo.low {S:Nat→Prop} {w:World} {x:St} {v:Value} (h:yo S w x v):yo (fun k=>S k∧k<w.heap.size) w x v:=by
 induction h with
 | mk k s es body els line ve vb vl gb cb gl cl ub ul he hbr hbk hl hlk ih1 ih2 =>
  exact .mk k s es body els line ve vb vl gb cb gl cl ub ul he.lower hbr.low ih1 hl.low ih2
def StE (S:Nat→Prop) (w:World) (x:St) (c:List Value):Prop:=yo S w x (.agg c.toArray)
theorem Ug:Z5 StE:=⟨fun h hs hb=>yo.kept h hs hb,fun h hS=>yo.wide h hS,fun h=>yo.low h⟩
def z8 (S:Nat→Prop) (w:World) (l:List St) (v:Value):Prop :=
 ∃g cap us,xP S w l v g cap us∧∀(j:Nat) (x:St) (c:List Value),l[j]?=some x→us[j]?=some c→yo S w x (.agg c.toArray)
theorem z8.nil (S:Nat→Prop) (w:World):z8 S w [] (.slice none 0 0):=⟨0,0,[],.inl ⟨rfl,rfl⟩,fun j x c h=>by simp at h⟩
theorem z8.kept {S:Nat→Prop} {w w':World} {l:List St} {v:Value} (h:z8 S w l v) (hs:w.heap.size≤w'.heap.size) (hb:∀k,S k→k<w.heap.size→w'.heap[k]?=w.heap[k]?):z8 S w' l v:=by
 obtain ⟨g,o,z,A,y⟩:=h;exact ⟨g,o,z,A.kept hs hb,fun j x c hx hc=>(y j x c hx hc).kept hs hb⟩
theorem z8.wide {S S':Nat→Prop} {w:World} {l:List St} {v:Value} (h:z8 S w l v) (hS:∀k,S k→S' k):z8 S' w l v:=by
 obtain ⟨g,o,z,A,y⟩:=h;exact ⟨g,o,z,A.wide hS,fun j x c hx hc=>(y j x c hx hc).wide hS⟩
theorem z8.slice {S:Nat→Prop} {w:World} {l:List St} {v:Value} (h:z8 S w l v):∃d0 d1 d2,v=.slice d0 d1 d2:=by
 obtain ⟨g,o,y,⟨_,rfl⟩ | ⟨rfl,_⟩,_⟩:=h
 ·exact ⟨_,_,_,rfl⟩
 ·exact ⟨_,_,_,rfl⟩
theorem yo.of {S:Nat→Prop} {w:World} {es:List Ex} {body els:List St} {ve vb vl:Value} (k:Nat) (s:List UInt8) (line:Nat) (he:zK S w es ve) (hb:z8 S w body vb) (hl:z8 S w els vl) :
  yo S w (.mk k s es body els line) (.agg #[.int .i64 k,.string (zb s),ve,vb,vl,.int .i64 line]):=by
 obtain ⟨J,H,D,y,h⟩:=hb;obtain ⟨A,G,z,o,I⟩:=hl;exact .mk k s es body els line ve vb vl J H A G D z he y h o I
theorem Zf.sts {ty B:Nat} {w:World} {l:List St} {v:Value} {g cap:Nat} {us:List (List Value)} (h:Zf StE 6 ty B w l v g cap us):z8 (fun k=>B≤k) w l v:=by
 have o:=h.block;refine ⟨g,cap,us,.inr ⟨h.val,h.ne,h.len,o.1,o.2.1,o.2.2.1,o.2.2.2,fun j u hj=>?_,h.wid⟩,fun j x c y hc=>yo.wide (h.kids j x c y hc) fun k hk=>hk.1⟩
 have y:=h.own.cells (g:=g) (by rw [h.val];rfl) j u hj
 by_cases h0:j=0
 ·subst h0;simpa [Addr.add] using y
 ·simpa [Addr.add,h0] using y
def ZF (r g:Nat) (w:World) (res:PR St) (e:Ending) (w':World):Prop :=
 zc r w w'∧match res with
  | .error a=>e=ZG a
  | .ok (x,ts)=>∃v o cap,e=.returned v∧yo (fun k=>w.heap.size≤k) w' x v∧zf r g o cap ts w'
def XY (r g:Nat) (w:World) (res:PR (List St)) (e:Ending) (w':World):Prop :=
 zc r w w'∧match res with
  | .error a=>e=ZG a
  | .ok (l,ts)=>∃v o cap,e=.returned v∧z8 (fun k=>w.heap.size≤k) w' l v∧zf r g o cap ts w'
def Ym (e:Ex):Bool:=e.kind==4||e.kind==8||e.kind==9
mutual
def Zg:Nat→List Tk→Option (PR St)
 | 0,_=>none
 | f+1,ts =>
  if zm (zu ts) [108,101,116]=true then zh (Z6 ts.tail) fun s us=>zh (zR [61] us) fun _ us=>zh (zg f 1 us) fun e us=>zh (zR [59] us) fun _ us=>some (.ok (.mk 1 s [e] [] [] (zu ts).line,us))
  else if zm (zu ts) [105,102]=true then zh (zg f 1 ts.tail) fun e us=>zh (zI f us) fun b us=>if zm (zu us) [101,108,115,101]=true then zh (zI f us.tail) fun c us=>some (.ok (.mk 4 [] [e] b c (zu ts).line,us)) else some (.ok (.mk 3 [] [e] b [] (zu ts).line,us))
  else if zm (zu ts) [119,104,105,108,101]=true then zh (zg f 1 ts.tail) fun e us=>zh (zI f us) fun b us=>some (.ok (.mk 5 [] [e] b [] (zu ts).line,us))
  else if zm (zu ts) [114,101,116,117,114,110]=true then if zm (zu ts.tail) [59]=true then some (.ok (.mk 6 [] [] [] [] (zu ts).line,ts.tail.tail)) else zh (zg f 1 ts.tail) fun e us=>zh (zR [59] us) fun _ us=>some (.ok (.mk 6 [] [e] [] [] (zu ts).line,us))
  else zh (zg f 1 ts) fun e us=>if zm (zu us) [61]=true then (if Ym e=true then zh (zg f 1 us.tail) fun e2 us=>zh (zR [59] us) fun _ us=>some (.ok (.mk 2 [] [e,e2] [] [] (zu ts).line,us)) else some (.error (zu us).at0)) else zh (zR [59] us) fun _ us=>some (.ok (.mk 7 [] [e] [] [] (zu ts).line,us))
def zI:Nat→List Tk→Option (PR (List St))
 | 0,_=>none
 | f+1,ts=>zh (zR [123] ts) fun _ us=>Zh f [] us
def Zh:Nat→List St→List Tk→Option (PR (List St))
 | 0,_,_=>none
 | f+1,pre,ts=>if zm (zu ts) [125]=true then some (.ok (pre,ts.tail)) else zh (Zg f ts) fun s us=>Zh f (pre++[s]) us
end
theorem yz {α β:Type} {x:Option (PR α)} {k l:α→List Tk→Option (PR β)} {r:PR β} (h:zh x k=some r) (hk:∀a ts r,k a ts=some r→l a ts=some r):zh x l=some r:=zE h (fun _ h=>h) hk
theorem Xg (f:Nat) :
  (∀ts r,Zg f ts=some r→Zg (f+1) ts=some r)∧(∀ts r,zI f ts=some r→zI (f+1) ts=some r)∧(∀pre ts r,Zh f pre ts=some r→Zh (f+1) pre ts=some r):=by
 induction f with
 | zero=>refine ⟨?_,?_,?_⟩ <;> intros <;> rename_i h <;> simp [Zg,zI,Zh] at h
 | succ f ih =>
  obtain ⟨D,z,A⟩:=ih;have y:=(Yk f).1;refine ⟨fun ts r h=>?_,fun ts r h=>?_,fun pre ts r h=>?_⟩
  ·rw [Zg] at h ⊢
   split at h
   ·rename_i o;rw [if_pos o]
    exact yz h fun _ _ _ h=>yz h fun _ _ _ h=>zE h (y _ _) fun _ _ _ h=>h
   ·rename_i o;rw [if_neg o]
    split at h
    ·rename_i o;rw [if_pos o]
     refine zE h (y _ _) fun _ _ _ h=>zE h (z _) fun _ _ _ h=>?_
     split at h
     ·rename_i o;rw [if_pos o];exact zE h (z _) fun _ _ _ h=>h
     ·rename_i o;rw [if_neg o];exact h
    ·rename_i o;rw [if_neg o]
     split at h
     ·rename_i o;rw [if_pos o]
      exact zE h (y _ _) fun _ _ _ h=>zE h (z _) fun _ _ _ h=>h
     ·rename_i o;rw [if_neg o]
      split at h
      ·rename_i o;rw [if_pos o]
       split at h
       ·rename_i o;rw [if_pos o];exact h
       ·rename_i o;rw [if_neg o];exact zE h (y _ _) fun _ _ _ h=>h
      ·rename_i o;rw [if_neg o]
       refine zE h (y _ _) fun _ _ _ h=>?_
       split at h
       ·rename_i o;rw [if_pos o]
        split at h
        ·rename_i o;rw [if_pos o];exact zE h (y _ _) fun _ _ _ h=>h
        ·rename_i o;rw [if_neg o];exact h
       ·rename_i o;rw [if_neg o];exact h
  ·rw [zI] at h ⊢
   exact yz h fun _ _ _ h=>A _ _ _ h
  ·rw [Zh] at h ⊢
   split at h
   ·rename_i o;rw [if_pos o];exact h
   ·rename_i o;rw [if_neg o];exact zE h (D _) fun _ _ _ h=>A _ _ _ h
theorem vB (f:Nat) :
  (∀ts x us,Zg f ts=some (.ok (x,us))→zi ts→zi us)∧(∀ts x us,zI f ts=some (.ok (x,us))→zi ts→zi us)∧(∀pre ts x us,Zh f pre ts=some (.ok (x,us))→zi ts→zi us):=by
 induction f with
 | zero=>refine ⟨?_,?_,?_⟩ <;> intros <;> simp_all [Zg,zI,Zh]
 | succ f ih =>
  obtain ⟨N,I,L⟩:=ih;have A:=(Ze f).1;refine ⟨fun ts x us h hE=>?_,fun ts x us h hE=>?_,fun pre ts x us h hE=>?_⟩
  ·rw [Zg] at h
   split at h
   ·rename_i o
    obtain ⟨_,_,y,h⟩:=za h;obtain ⟨_,_,z,h⟩:=za h;obtain ⟨_,_,H,h⟩:=za h;obtain ⟨_,_,O,h⟩:=za h;exact Za h (zZ O (A _ _ _ _ H (zZ z (ZM y (zA hE o)))))
   ·split at h
    ·rename_i o
     obtain ⟨_,_,y,h⟩:=za h;obtain ⟨_,_,z,h⟩:=za h;have G:=I _ _ _ z (A _ _ _ _ y (zA hE o))
     split at h
     ·rename_i o
      obtain ⟨_,_,H,h⟩:=za h;exact Za h (I _ _ _ H (zA G o))
     ·exact Za h G
    ·split at h
     ·rename_i o
      obtain ⟨_,_,y,h⟩:=za h;obtain ⟨_,_,z,h⟩:=za h;exact Za h (I _ _ _ z (A _ _ _ _ y (zA hE o)))
     ·split at h
      ·rename_i o
       split at h
       ·rename_i J
        exact Za h (zA (zA hE o) J)
       ·obtain ⟨_,_,y,h⟩:=za h
        obtain ⟨_,_,z,h⟩:=za h;exact Za h (zZ z (A _ _ _ _ y (zA hE o)))
      ·obtain ⟨_,_,y,h⟩:=za h
       have D:=A _ _ _ _ y hE
       split at h
       ·rename_i o
        split at h
        ·obtain ⟨_,_,z,h⟩:=za h
         obtain ⟨_,_,H,h⟩:=za h;exact Za h (zZ H (A _ _ _ _ z (zA D o)))
        ·simp at h
       ·obtain ⟨_,_,z,h⟩:=za h
        exact Za h (zZ z D)
  ·rw [zI] at h
   obtain ⟨_,_,y,h⟩:=za h;exact L _ _ _ _ h (zZ y hE)
  ·rw [Zh] at h
   split at h
   ·rename_i o;exact Za h (zA hE o)
   ·obtain ⟨_,_,y,h⟩:=za h
    exact L _ _ _ _ h (N _ _ _ y hE)
abbrev xw:Obj:=.cells #[.int .i64 0,.string ⟨#[]⟩,.slice none 0 0,.slice none 0 0,.slice none 0 0,.int .i64 0] 107
abbrev XA (w:World) (N:Nat) (a b c d e f:Value):World:=(set5 w N a b c d e).setCell ⟨N,5,none⟩ f
theorem zM {w:World} {N:Nat} {x0 x1 x2 x3 x4 x5:Value} {ty:TypeId} (h:w.heap[N]?=some (.cells #[x0,x1,x2,x3,x4,x5] ty (0,0))) :
  w.cell? ⟨N,0,none⟩=some x0∧w.cell? ⟨N,1,none⟩=some x1∧w.cell? ⟨N,2,none⟩=some x2∧w.cell? ⟨N,3,none⟩=some x3∧w.cell? ⟨N,4,none⟩=some x4∧w.cell? ⟨N,5,none⟩=some x5∧∀j,w.frozen? ⟨N,j,none⟩=false:=by
 refine ⟨?_,?_,?_,?_,?_,?_,fun j=>?_⟩
 ·simp only [World.cell?,h];rfl
 ·simp only [World.cell?,h];rfl
 ·simp only [World.cell?,h];rfl
 ·simp only [World.cell?,h];rfl
 ·simp only [World.cell?,h];rfl
 ·simp only [World.cell?,h];rfl
 ·simp only [World.frozen?,h];simp
theorem Zu {w:World} {N:Nat} {x0 x1 x2 x3 x4 x5:Value} {ty:TypeId} (h:w.heap[N]?=some (.cells #[x0,x1,x2,x3,x4,x5] ty (0,0))) (a b c d e f:Value):(XA w N a b c d e f).heap[N]?=some (.cells #[a,b,c,d,e,f] ty (0,0)) :=
 zo f (zo e (zo d (zo c (zo b (zo a h)))))
theorem Yp (w:World) (N:Nat) (a b c d e f:Value) {k:Nat} (hk:k≠N):(XA w N a b c d e f).heap[k]?=w.heap[k]?:=by
 rw [Below.heap_setCell _ _ _ _ (by simpa using hk)];exact zr w N a b c d e hk
theorem xi {r:Nat} {w0 w:World} {N:Nat} (h:zc r w0 w) (hN:w0.heap.size≤N) (a b c d e f:Value):zc r w0 (XA w N a b c d e f) :=
 (ZN h hN a b c d e).setOther (p:=⟨N,5,none⟩) hN f
theorem ZF.of_set6 {r g o cap N B:Nat} {w w5:World} {us:List Tk} {es:List Ex} {body els:List St} {ve vb vl:Value} (k:Nat) (s:List UInt8) (line:Nat) (hK:zc r w w5) (hN:w.heap.size≤N) (hr:r<w.heap.size) (hg:g<w.heap.size)
  (he:zK (fun j=>B≤j) w5 es ve) (hb:z8 (fun j=>B≤j) w5 body vb) (hl:z8 (fun j=>B≤j) w5 els vl) (hB:N<B) (hrd:zf r g o cap us w5) :
  ZF r g w (.ok (.mk k s es body els line,us)) (.returned (.agg #[.int .i64 k,.string (zb s),ve,vb,vl,.int .i64 line])) (XA w5 N (.int .i64 k) (.string (zb s)) ve vb vl (.int .i64 line)):=by
 refine ⟨xi hK hN _ _ _ _ _ _,_,o,cap,rfl,?_,hrd.keep (Yp _ _ _ _ _ _ _ _ (by omega)) (Yp _ _ _ _ _ _ _ _ (by omega))⟩
 have y:w5.heap.size≤(XA w5 N (.int .i64 k) (.string (zb s)) ve vb vl (.int .i64 line)).heap.size:=by simp
 have h:∀j,B≤j→j<w5.heap.size→(XA w5 N (.int .i64 k) (.string (zb s)) ve vb vl (.int .i64 line)).heap[j]?=w5.heap[j]?:=fun j hj _=>Yp _ _ _ _ _ _ _ _ (by omega)
 exact yo.wide (yo.of k s line (he.kept y h) (hb.kept y h) (hl.kept y h)) fun j hj=>by omega
def Q4 (t t1:Tk) (res:PR Ex):PR St :=
 if t.k=1 then
  if zm t1 [61]=true then
   match res with
   | .error a=>.error a
   | .ok (e,us)=>if zm (zu us) [59]=true then .ok (.mk 1 t.s [e] [] [] 0,us.tail) else .error (zu us).at0
  else .error t1.at0
 else .error t.at0
theorem zhD (r g o cap:Nat) (t t1:Tk) (us1:List Tk) (w:World) (res:PR Ex) (h:zf r g o cap (t::t1::us1) w) (hE:zi (t::t1::us1)) (hEnd:∀l us,res=.ok (l,us)→zi us)
  (hex:t.k=1→zm t1 [61]=true→∀z o1 cap1,zf r g o1 cap1 us1 z→zc r w z→Calls Tryz.prog 42 #[.pointer (some ⟨r,0,none⟩)] z (zJ r g z res)) :
  Calls Tryz.prog 164 #[.pointer (some ⟨r,0,none⟩)] w (ZF r g w (Q4 t t1 res)):=by
 generalize hres:Q4 t t1 res=R;have hr:=h.lt.1;have am:=h.lt.2;obtain ⟨w0,J⟩:∃w0,w0=w.alloc xw:=⟨_,rfl⟩;have h0:zf r g o cap (t::t1::us1) w0:=by rw [J];exact h.alloc _
 have k0:zc r w w0:=by rw [J];exact (zc.refl r w).alloc _
 have b0:w0.heap[w.heap.size]?=some xw:=by rw [J];exact World.alloc_heap_new _ _
 have au:w0.heap.size=w.heap.size+1:=by rw [J];simp
 have cn:=xu r g o cap t (t1::us1) w0 h0 (fun _=>by simp)
 have ah:Hid (w0=w.alloc xw):=J
 unfold Q4 at hres
 clear h h0 J
 by_cases hk:t.k=1
 ·simp only [if_pos hk] at cn
  rw [if_pos hk] at hres;have ap:=hE.tail (by omega:t.k≠0)
  go_enter Tryz.func164,Tryz.ntmps164
  go_wp2_with fail
  rw [←ah.out];refine cn.mono ?_;clear cn ah;rintro e z ⟨O,rfl,h1⟩;obtain ⟨w2,I⟩:∃w2,w2=z.alloc (.cells #[.int .i64 1,.string (zb t.s),.slice none 0 0,.slice none 0 0,.slice none 0 0,.int .i64 0] 107):=⟨_,rfl⟩;have h2:zf r g (o+5) (cap-1) (t1::us1) w2:=by rw [I];exact h1.alloc _
  have ax:=O.size;have b1:=(O.block _ (by omega) (by omega)).trans b0
  have b2:w2.heap[w.heap.size]?=some xw:=by rw [I];exact (Below.heap_alloc _ _ _ (by omega)).trans b1
  have bP:w2.heap[z.heap.size]?=some (.cells #[.int .i64 1,.string (zb t.s),.slice none 0 0,.slice none 0 0,.slice none 0 0,.int .i64 0] 107 (0,0)):=by rw [I];exact World.alloc_heap_new _ _
  have hP:z.heap.size<w2.heap.size:=(Array.getElem?_eq_some_iff.1 bP).1;have N:Hid (zc r w w2):=show zc _ _ _ by rw [I];exact (k0.trans O).alloc _
  have cd:=yI r g (o+5) (cap-1) t1 us1 [61] w2 h2 (fun hi=>(ap.tail (zk hi)).ne)
  have ae:Hid (w2=z.alloc (.cells #[.int .i64 1,.string (zb t.s),.slice none 0 0,.slice none 0 0,.slice none 0 0,.int .i64 0] 107)):=I;have HB:Hid (w2.heap[w.heap.size]?=some xw∧w2.heap[z.heap.size]?=some (.cells #[.int .i64 1,.string (zb t.s),.slice none 0 0,.slice none 0 0,.slice none 0 0,.int .i64 0] 107 (0,0))):=⟨b2,bP⟩;clear I h1 O b0 b1 b2 bP k0 h2
  by_cases hc:zm t1 [61]=true
  ·simp only [if_pos hc] at cd
   rw [if_pos hc] at hres;go_wp2_with fail
   rw [←ae.out];refine cd.mono ?_;clear cd ae;rintro e Y ⟨L,rfl,h3⟩;have ct:=hex hk hc Y _ _ h3 (N.out.trans L);have ai:Hid (zc r w2 Y):=L;have aA:=L.size;clear hex h3 L;go_wp2_with fail
   refine ct.mono ?_;clear ct;rintro e w4 ⟨aa,G⟩;have H:zc r w2 w4:=ai.out.trans aa;rcases res with a | ⟨x,us⟩
   ·simp only at G hres
    obtain rfl:=G;subst hres;exact ⟨rfl,N.out.trans H,rfl⟩
   ·obtain ⟨v,o4,V,rfl,hx,ak⟩:=G
    obtain ⟨xa,xb,xc,x0,x1,x2,xl,rfl⟩:=hx.agg;simp only at hres;have al:=hEnd x us rfl;obtain ⟨t5,ad,rfl⟩:=al.cons;simp only [zC,List.tail_cons] at hres;have ay:=N.out.size;have av:=H.size;have aq:=aa.size;have b4:=(H.block _ (by omega) (by omega)).trans HB.out.1
    have c4:=(H.block _ hP (by omega)).trans HB.out.2
    have ag:∀ob,(w4.alloc ob).heap[z.heap.size]?=some (.cells #[.int .i64 1,.string (zb t.s),.slice none 0 0,.slice none 0 0,.slice none 0 0,.int .i64 0] 107 (0,0)):=fun ob=>(Below.heap_alloc _ _ _ (by omega)).trans c4
    obtain ⟨-,-,g2,-,-,-,gf⟩:=zM c4;have az:=zl g2;have aw:w4.frozen? ⟨z.heap.size,2,none⟩=false:=gf 2;have ar:∀ob,(w4.alloc ob).frozen? ⟨z.heap.size,2,none⟩=false:=fun ob=>(zM (ag ob)).2.2.2.2.2.2 2
    have an:z.heap.size<w4.heap.size:=by omega
    obtain ⟨w5,af⟩:∃w5,w5=(w4.setCell ⟨z.heap.size,2,none⟩ (.slice (some ⟨w4.heap.size,0,none⟩) 1 1)).alloc (.cells #[.int .i64 xa,.string xb,.int .i64 xc,.slice x0 x1 x2,.int .i64 xl] 45):=⟨_,rfl⟩;have A:w5=(w4.alloc (.cells #[.int .i64 xa,.string xb,.int .i64 xc,.slice x0 x1 x2,.int .i64 xl] 45)).setCell ⟨z.heap.size,2,none⟩ (.slice (some ⟨w4.heap.size,0,none⟩) 1 1):=by rw [af,World.setCell_alloc_past _ _ _ _ an]
    have y:∀k,k≠z.heap.size→w5.heap[k]?=(w4.alloc (.cells #[.int .i64 xa,.string xb,.int .i64 xc,.slice x0 x1 x2,.int .i64 xl] 45)).heap[k]?:=fun k hk=>by rw [A];exact Below.heap_setCell _ _ _ _ (by simpa using hk)
    have c5:w5.heap[z.heap.size]?=some (.cells #[.int .i64 1,.string (zb t.s),.slice (some ⟨w4.heap.size,0,none⟩) 1 1,.slice none 0 0,.slice none 0 0,.int .i64 0] 107 (0,0)):=by rw [A];exact zo _ (ag _)
    have b5:=(y w.heap.size (by omega)).trans ((Below.heap_alloc _ _ _ (by omega)).trans b4)
    have k5:zc r w w5:=by rw [A];exact ((N.out.trans H).alloc _).setOther (by simp;omega) _
    have X:zf r g o4 V (t5::ad) w5:=(ak.alloc (.cells #[.int .i64 xa,.string xb,.int .i64 xc,.slice x0 x1 x2,.int .i64 xl] 45)).keep (y r (by omega)) (y g (by omega))
    have Q:=zK.one (S:=fun k=>Y.heap.size≤k) 45 (c:=[.int .i64 xa,.string xb,.int .i64 xc,.slice x0 x1 x2,.int .i64 xl]) hx rfl (by omega)
    have U:zK (fun k=>Y.heap.size≤k) w5 [x] (.slice (some ⟨w4.heap.size,0,none⟩) 1 1):=Q.kept (by rw [A];simp) fun k hk _=>y k (by omega)
    have aj:=af.symm;have ce:=yI r g o4 V t5 ad [59] w5 X (fun hi=>(al.tail (zk hi)).ne)
    have ab:Hid (zc r w w5):=k5;have W:Hid (zK (fun k=>Y.heap.size≤k) w5 [x] (.slice (some ⟨w4.heap.size,0,none⟩) 1 1)):=U
    have Z:Hid (w5.heap[w.heap.size]?=some xw∧w5.heap[z.heap.size]?=some (.cells #[.int .i64 1,.string (zb t.s),.slice (some ⟨w4.heap.size,0,none⟩) 1 1,.slice none 0 0,.slice none 0 0,.int .i64 0] 107 (0,0))):=⟨b5,c5⟩;have ao:z.heap.size<w5.heap.size:=(Array.getElem?_eq_some_iff.1 c5).1;clear af A y b4 c4 ag c5 b5 k5 X ak gf aa H HB N ai hx Q U
    by_cases hm:zm t5 [59]=true
    ·simp only [if_pos hm] at ce
     rw [if_pos hm] at hres;subst hres;go_wp2_with fail
     refine ce.mono ?_;clear ce aj;rintro e w6 ⟨D,rfl,h6⟩;have b6:=(D.block _ (by omega) (by omega)).trans Z.out.1
     have c6:=(D.block _ ao (by omega)).trans Z.out.2
     obtain ⟨e0,e1,e2,e3,e4,e5,-⟩:=zM c6;obtain ⟨q0,q1,q2,q3,q4,q5,qf⟩:=zM b6;obtain ⟨z0,z1,z2,z3,z4,z5,-⟩:=zM (Zu b6 (.int .i64 1) (.string (zb t.s)) (.slice (some ⟨w4.heap.size,0,none⟩) 1 1) (.slice none 0 0) (.slice none 0 0) (.int .i64 0));have T:zK (fun k=>Y.heap.size≤k) w6 [x] (.slice (some ⟨w4.heap.size,0,none⟩) 1 1):=W.out.kept D.size fun k hk hlt=>D.block k hlt (by omega)
     have HP:Hid (ZF r g w (.ok (.mk 1 t.s [x] [] [] 0,ad)) (.returned (.agg #[.int .i64 1,.string (zb t.s),.slice (some ⟨w4.heap.size,0,none⟩) 1 1,.slice none 0 0,.slice none 0 0,.int .i64 0])) (XA w6 w.heap.size (.int .i64 1) (.string (zb t.s)) (.slice (some ⟨w4.heap.size,0,none⟩) 1 1) (.slice none 0 0) (.slice none 0 0) (.int .i64 0))) :=
      ZF.of_set6 (B:=Y.heap.size) 1 t.s 0 (ab.out.trans D) (Nat.le_refl _) hr am T (z8.nil _ _) (z8.nil _ _) (by omega) h6
     clear b6 c6 T D h6 Z W ab;go_wp2
     exact bodyPost_ret (v:=.agg #[.int .i64 1,.string (zb t.s),.slice (some ⟨w4.heap.size,0,none⟩) 1 1,.slice none 0 0,.slice none 0 0,.int .i64 0]) (by simp [results,Tryz.results164,go_sem,z0,z1,z2,z3,z4,z5]) rfl HP.out
    ·simp only [if_neg hm] at ce
     rw [if_neg hm] at hres;subst hres;go_wp2_with fail
     refine ce.mono ?_;clear ce;rintro e w6 ⟨D,rfl⟩;exact ⟨rfl,ab.out.trans D,rfl⟩
  ·simp only [if_neg hc] at cd
   rw [if_neg hc] at hres;subst hres;go_wp2_with fail
   rw [←ae.out];refine cd.mono ?_;clear cd;rintro e Y ⟨L,rfl⟩;exact ⟨rfl,N.out.trans L,rfl⟩
 ·simp only [if_neg hk] at cn
  rw [if_neg hk] at hres;subst hres
  go_enter Tryz.func164,Tryz.ntmps164
  go_wp2_with fail
  rw [←ah.out];refine cn.mono ?_;clear cn;rintro e z ⟨O,rfl⟩;exact ⟨rfl,k0.trans O,rfl⟩
def xd (t:Tk) (ts:List Tk) (res:PR Ex):PR St :=
 if zm t [59]=true then .ok (.mk 6 [] [] [] [] 0,ts) else
 match res with
 | .error a=>.error a
 | .ok (e,us)=>if zm (zu us) [59]=true then .ok (.mk 6 [] [e] [] [] 0,us.tail) else .error (zu us).at0
theorem za7 (r g o cap:Nat) (t:Tk) (ts:List Tk) (w:World) (res:PR Ex) (h:zf r g o cap (t::ts) w) (hE:zi (t::ts)) (hEnd:∀l us,res=.ok (l,us)→zi us)
  (hex:zm t [59]=false→∀w1 o1 cap1,zf r g o1 cap1 (t::ts) w1→zc r w w1→Calls Tryz.prog 42 #[.pointer (some ⟨r,0,none⟩)] w1 (zJ r g w1 res)) :
  Calls Tryz.prog 166 #[.pointer (some ⟨r,0,none⟩)] w (ZF r g w (xd t ts res)):=by
 generalize hres:xd t ts res=R;have hr:=h.lt.1;have ae:=h.lt.2;obtain ⟨w2,I⟩:∃w2,w2=(w.alloc xw).alloc (.cells #[.int .i64 6,.string ⟨#[]⟩,.slice none 0 0,.slice none 0 0,.slice none 0 0,.int .i64 0] 107):=⟨_,rfl⟩;have h2:zf r g o cap (t::ts) w2:=by rw [I];exact (h.alloc _).alloc _
 have k2:zc r w w2:=by rw [I];exact ((zc.refl r w).alloc _).alloc _
 have b2:w2.heap[w.heap.size]?=some xw:=by rw [I,Below.heap_alloc _ _ _ (by simp)];exact World.alloc_heap_new _ _
 have bP:w2.heap[w.heap.size+1]?=some (.cells #[.int .i64 6,.string ⟨#[]⟩,.slice none 0 0,.slice none 0 0,.slice none 0 0,.int .i64 0] 107 (0,0)):=by
  rw [I]
  have:=World.alloc_heap_new (w.alloc xw) (.cells #[.int .i64 6,.string ⟨#[]⟩,.slice none 0 0,.slice none 0 0,.slice none 0 0,.int .i64 0] 107)
  simpa using this
 have hP:w.heap.size+1<w2.heap.size:=(Array.getElem?_eq_some_iff.1 bP).1;have G:Hid (zc r w w2):=k2;have O:Hid (w2=(w.alloc xw).alloc (.cells #[.int .i64 6,.string ⟨#[]⟩,.slice none 0 0,.slice none 0 0,.slice none 0 0,.int .i64 0] 107)):=I;have HB:Hid (w2.heap[w.heap.size]?=some xw∧w2.heap[w.heap.size+1]?=some (.cells #[.int .i64 6,.string ⟨#[]⟩,.slice none 0 0,.slice none 0 0,.slice none 0 0,.int .i64 0] 107 (0,0))):=⟨b2,bP⟩;have cs:=Zy r g o cap t ts [59] w2 h2 (fun hi=>(hE.tail (zk hi)).ne)
 unfold xd at hres
 clear h I h2 k2 b2 bP
 by_cases hi:zm t [59]=true
 ·rw [hi] at cs
  rw [if_pos hi] at hres;subst hres;clear hex hEnd
  go_enter Tryz.func166,Tryz.ntmps166
  go_wp2_with fail
  rw [←O.out];refine cs.mono ?_;clear cs O;rintro e w6 ⟨rfl,y,af⟩;have h6:zf r g (o+5) (cap-1) ts w6:=by simpa using af
  have Y:=(y.block _ (by omega) (by omega)).trans HB.out.1
  have c6:=(y.block _ hP (by omega)).trans HB.out.2
  obtain ⟨e0,e1,e2,e3,e4,e5,-⟩:=zM c6;obtain ⟨q0,q1,q2,q3,q4,q5,qf⟩:=zM Y;obtain ⟨z0,z1,z2,z3,z4,z5,-⟩:=zM (Zu Y (.int .i64 6) (.string ⟨#[]⟩) (.slice none 0 0) (.slice none 0 0) (.slice none 0 0) (.int .i64 0))
  have HP:Hid (ZF r g w (.ok (.mk 6 [] [] [] [] 0,ts)) (.returned (.agg #[.int .i64 6,.string ⟨#[]⟩,.slice none 0 0,.slice none 0 0,.slice none 0 0,.int .i64 0])) (XA w6 w.heap.size (.int .i64 6) (.string ⟨#[]⟩) (.slice none 0 0) (.slice none 0 0) (.slice none 0 0) (.int .i64 0))) :=
   ZF.of_set6 (B:=w.heap.size+1) 6 [] 0 (G.out.trans y) (Nat.le_refl _) hr ae (.inl ⟨rfl,rfl⟩) (z8.nil _ _) (z8.nil _ _) (Nat.lt_succ_self _) h6
  clear Y c6 y h6 af HB G;go_wp2
  exact bodyPost_ret (v:=.agg #[.int .i64 6,.string ⟨#[]⟩,.slice none 0 0,.slice none 0 0,.slice none 0 0,.int .i64 0]) (by simp [results,Tryz.results166,go_sem,z0,z1,z2,z3,z4,z5]) rfl HP.out
 ·have ai:zm t [59]=false:=by simpa using hi
  rw [ai] at cs;rw [if_neg hi] at hres
  go_enter Tryz.func166,Tryz.ntmps166
  go_wp2_with fail
  rw [←O.out];refine cs.mono ?_;clear cs O;rintro e w3 ⟨rfl,Q,ag⟩;have h3:zf r g o cap (t::ts) w3:=by simpa using ag
  have ct:=hex ai w3 _ _ h3 (G.out.trans Q);have ah:Hid (zc r w2 w3):=Q;have aw:=Q.size;clear hex h3 ag Q;go_wp2_with fail
  refine ct.mono ?_;clear ct;rintro e w4 ⟨X,D⟩;have H:zc r w2 w4:=ah.out.trans X;rcases res with a | ⟨x,us⟩
  ·simp only at D hres
   obtain rfl:=D;subst hres;exact ⟨rfl,G.out.trans H,rfl⟩
  ·obtain ⟨v,o4,T,rfl,hx,ak⟩:=D
   obtain ⟨xa,xb,xc,x0,x1,x2,xl,rfl⟩:=hx.agg;simp only at hres;have al:=hEnd x us rfl;obtain ⟨t5,aa,rfl⟩:=al.cons;simp only [zC,List.tail_cons] at hres;have au:=G.out.size;have aq:=H.size;have ao:=X.size;have b4:=(H.block _ (by omega) (by omega)).trans HB.out.1
   have c4:=(H.block _ hP (by omega)).trans HB.out.2
   have ad:∀ob,(w4.alloc ob).heap[w.heap.size+1]?=some (.cells #[.int .i64 6,.string ⟨#[]⟩,.slice none 0 0,.slice none 0 0,.slice none 0 0,.int .i64 0] 107 (0,0)):=fun ob=>(Below.heap_alloc _ _ _ (by omega)).trans c4
   obtain ⟨-,-,g2,-,-,-,gf⟩:=zM c4;have av:=zl g2;have ar:w4.frozen? ⟨w.heap.size+1,2,none⟩=false:=gf 2;have ap:∀ob,(w4.alloc ob).frozen? ⟨w.heap.size+1,2,none⟩=false:=fun ob=>(zM (ad ob)).2.2.2.2.2.2 2
   have am:w.heap.size+1<w4.heap.size:=by omega
   obtain ⟨w5,ab⟩:∃w5,w5=(w4.setCell ⟨w.heap.size+1,2,none⟩ (.slice (some ⟨w4.heap.size,0,none⟩) 1 1)).alloc (.cells #[.int .i64 xa,.string xb,.int .i64 xc,.slice x0 x1 x2,.int .i64 xl] 45):=⟨_,rfl⟩;have A:w5=(w4.alloc (.cells #[.int .i64 xa,.string xb,.int .i64 xc,.slice x0 x1 x2,.int .i64 xl] 45)).setCell ⟨w.heap.size+1,2,none⟩ (.slice (some ⟨w4.heap.size,0,none⟩) 1 1):=by rw [ab,World.setCell_alloc_past _ _ _ _ am]
   have z:∀k,k≠w.heap.size+1→w5.heap[k]?=(w4.alloc (.cells #[.int .i64 xa,.string xb,.int .i64 xc,.slice x0 x1 x2,.int .i64 xl] 45)).heap[k]?:=fun k hk=>by rw [A];exact Below.heap_setCell _ _ _ _ (by simpa using hk)
   have c5:w5.heap[w.heap.size+1]?=some (.cells #[.int .i64 6,.string ⟨#[]⟩,.slice (some ⟨w4.heap.size,0,none⟩) 1 1,.slice none 0 0,.slice none 0 0,.int .i64 0] 107 (0,0)):=by rw [A];exact zo _ (ad _)
   have b5:=(z w.heap.size (by omega)).trans ((Below.heap_alloc _ _ _ (by omega)).trans b4)
   have k5:zc r w w5:=by rw [A];exact ((G.out.trans H).alloc _).setOther (by simp) _
   have V:zf r g o4 T (t5::aa) w5:=(ak.alloc (.cells #[.int .i64 xa,.string xb,.int .i64 xc,.slice x0 x1 x2,.int .i64 xl] 45)).keep (z r (by omega)) (z g (by omega))
   have J:=zK.one (S:=fun k=>w3.heap.size≤k) 45 (c:=[.int .i64 xa,.string xb,.int .i64 xc,.slice x0 x1 x2,.int .i64 xl]) hx rfl (by omega)
   have N:zK (fun k=>w3.heap.size≤k) w5 [x] (.slice (some ⟨w4.heap.size,0,none⟩) 1 1):=J.kept (by rw [A];simp) fun k hk _=>z k (by omega)
   have aj:=ab.symm;have ce:=yI r g o4 T t5 aa [59] w5 V (fun hi=>(al.tail (zk hi)).ne)
   have Z:Hid (zc r w w5):=k5;have U:Hid (zK (fun k=>w3.heap.size≤k) w5 [x] (.slice (some ⟨w4.heap.size,0,none⟩) 1 1)):=N
   have W:Hid (w5.heap[w.heap.size]?=some xw∧w5.heap[w.heap.size+1]?=some (.cells #[.int .i64 6,.string ⟨#[]⟩,.slice (some ⟨w4.heap.size,0,none⟩) 1 1,.slice none 0 0,.slice none 0 0,.int .i64 0] 107 (0,0))):=⟨b5,c5⟩;have an:w.heap.size+1<w5.heap.size:=(Array.getElem?_eq_some_iff.1 c5).1;clear ab A z b4 c4 ad c5 b5 k5 V ak gf X H HB G ah hx J N
   by_cases hm:zm t5 [59]=true
   ·simp only [if_pos hm] at ce
    rw [if_pos hm] at hres;subst hres;go_wp2_with fail
    refine ce.mono ?_;clear ce aj;rintro e w6 ⟨y,rfl,h6⟩;have Y:=(y.block _ (by omega) (by omega)).trans W.out.1
    have c6:=(y.block _ an (by omega)).trans W.out.2
    obtain ⟨e0,e1,e2,e3,e4,e5,-⟩:=zM c6;obtain ⟨q0,q1,q2,q3,q4,q5,qf⟩:=zM Y;obtain ⟨z0,z1,z2,z3,z4,z5,-⟩:=zM (Zu Y (.int .i64 6) (.string ⟨#[]⟩) (.slice (some ⟨w4.heap.size,0,none⟩) 1 1) (.slice none 0 0) (.slice none 0 0) (.int .i64 0));have L:zK (fun k=>w3.heap.size≤k) w6 [x] (.slice (some ⟨w4.heap.size,0,none⟩) 1 1):=U.out.kept y.size fun k hk hlt=>y.block k hlt (by omega)
    have HP:Hid (ZF r g w (.ok (.mk 6 [] [x] [] [] 0,aa)) (.returned (.agg #[.int .i64 6,.string ⟨#[]⟩,.slice (some ⟨w4.heap.size,0,none⟩) 1 1,.slice none 0 0,.slice none 0 0,.int .i64 0])) (XA w6 w.heap.size (.int .i64 6) (.string ⟨#[]⟩) (.slice (some ⟨w4.heap.size,0,none⟩) 1 1) (.slice none 0 0) (.slice none 0 0) (.int .i64 0))) :=
     ZF.of_set6 (B:=w3.heap.size) 6 [] 0 (Z.out.trans y) (Nat.le_refl _) hr ae L (z8.nil _ _) (z8.nil _ _) (by omega) h6
    clear Y c6 L y h6 W U Z;go_wp2
    exact bodyPost_ret (v:=.agg #[.int .i64 6,.string ⟨#[]⟩,.slice (some ⟨w4.heap.size,0,none⟩) 1 1,.slice none 0 0,.slice none 0 0,.int .i64 0]) (by simp [results,Tryz.results166,go_sem,z0,z1,z2,z3,z4,z5]) rfl HP.out
   ·simp only [if_neg hm] at ce
    rw [if_neg hm] at hres;subst hres;go_wp2_with fail
    refine ce.mono ?_;clear ce;rintro e w6 ⟨y,rfl⟩;exact ⟨rfl,Z.out.trans y,rfl⟩
end Go.Proofs.YtcphojjpapgblaaGreatDoor
