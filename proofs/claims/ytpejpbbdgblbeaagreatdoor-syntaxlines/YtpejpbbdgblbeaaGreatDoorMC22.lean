import Derived.Test.YtpejpbbdgblbeaaGreatDoorMC21
import Derived.Test.YtpejpbbdgblbeaaGreatDoorMC17
import Derived.Test.YtpejpbbdgblbeaaGreatDoorMC14
namespace Go.Proofs.YtpejpbbdgblbeaaGreatDoor
open Go.RowKit Go.Shelf
set_option maxHeartbeats 16000000
set_option maxRecDepth 100000
structure Rc where
 name:List UInt8
 fields:List Pm
 line:Nat
def xA (line:Nat) (t t1:Tk) (res:PR (List Pm)):PR Rc :=
 if t.k=1 then
  if zo t1 [123]=true then
   match res with
   | .error a=>.error a
   | .ok (l,us)=>if zo (zw us) [125]=true then .ok (⟨t.s,l,line⟩,us.tail) else .error (zw us).at0
  else .error t1.at0
 else .error t.at0
abbrev rcZ:Obj:=.cells #[.string ⟨#[]⟩,.slice none 0 0,.int .i64 0] 74
def XC (r g:Nat) (w:World) (res:PR Rc) (e:Ending) (w':World):Prop :=
 zd r w w'∧match res with
  | .error a=>e=ZH a
  | .ok (x,ts)=>∃v o cap,e=.returned (.agg #[.string (zb x.name),v,.int .i64 x.line])∧ZU w.heap.size w' x.fields v∧zf r g o cap ts w'
theorem qF {w:World} {N:Nat} {x0 x1 x2:Value} {ty:TypeId} (h:w.heap[N]?=some (.cells #[x0,x1,x2] ty (0,0))) :
  w.cell? ⟨N,0,none⟩=some x0∧w.cell? ⟨N,1,none⟩=some x1∧w.cell? ⟨N,2,none⟩=some x2∧∀j,w.frozen? ⟨N,j,none⟩=false:=by
 refine ⟨?_,?_,?_,fun j=>?_⟩
 ·simp only [World.cell?,h];rfl
 ·simp only [World.cell?,h];rfl
 ·simp only [World.cell?,h];rfl
 ·simp only [World.frozen?,h];simp
theorem ZU.slice {B:Nat} {w:World} {l:List Pm} {v:Value} (h:ZU B w l v):∃d0 d1 d2,v=.slice d0 d1 d2:=by
 rcases h with ⟨_,rfl⟩ | ⟨g,o,s,h⟩
 ·exact ⟨_,_,_,rfl⟩
 ·exact ⟨_,_,_,h.val⟩
theorem QL (r g o cap line:Nat) (t t1:Tk) (us1:List Tk) (w:World) (res:PR (List Pm)) (h:zf r g o cap (t::t1::us1) w) (hE:zg (t::t1::us1)) (hEnd:∀l us,res=.ok (l,us)→zg us)
  (hrow:t.k=1→zo t1 [123]=true→∀A o1 V,zf r g o1 V us1 A→zd r w A→Calls Tryz.prog 96 #[.pointer (some ⟨r,0,none⟩),.func (.func 97) #[.pointer (some ⟨r,0,none⟩)] #[]] A (QK r g A res)) :
  Calls Tryz.prog 53 #[.pointer (some ⟨r,0,none⟩),.int .i64 line] w (XC r g w (xA line t t1 res)):=by
 generalize hres:xA line t t1 res=R;have aB:∀(fn:Fn) (first cap:Array Value) (w:World),(Instr.makeFunc fn first cap).run Tryz.prog w=.ok (.func fn first cap) w:=fun _ _ _ _=>rfl
 have hr:=h.lt.1;have az:=h.lt.2;obtain ⟨w0,K⟩:∃w0,w0=w.alloc rcZ:=⟨_,rfl⟩;have h0:zf r g o cap (t::t1::us1) w0:=by rw [K];exact h.alloc _
 have k0:zd r w w0:=by rw [K];exact (zd.refl r w).alloc _
 have b0:w0.heap[w.heap.size]?=some rcZ:=by rw [K];exact World.alloc_heap_new _ _
 have aC:w0.heap.size=w.heap.size+1:=by rw [K];simp
 have cn:=xe r g o cap t (t1::us1) w0 h0 (fun _=>by simp)
 have ah:Hid (w0=w.alloc rcZ):=K
 unfold xA at hres
 clear h h0 K
 by_cases hk:t.k=1
 ·simp only [if_pos hk] at cn
  rw [if_pos hk] at hres;have au:=hE.tail (by omega:t.k≠0)
  go_enter Tryz.func53,Tryz.ntmps53
  go_wp2_with fail
  rw [←ah.out];refine cn.mono ?_;clear cn ah;rintro e A ⟨G,rfl,h1⟩;obtain ⟨w2,L⟩:∃w2,w2=A.alloc (.cells #[.string (zb t.s),.slice none 0 0,.int .i64 line] 74):=⟨_,rfl⟩;have h2:zf r g (o+5) (cap-1) (t1::us1) w2:=by rw [L];exact h1.alloc _
  have aD:=G.size;have b1:=(G.block _ (by omega) (by omega)).trans b0
  have b2:w2.heap[w.heap.size]?=some rcZ:=by rw [L];exact (Below.heap_alloc _ _ _ (by omega)).trans b1
  have bP:w2.heap[A.heap.size]?=some (.cells #[.string (zb t.s),.slice none 0 0,.int .i64 line] 74 (0,0)):=by rw [L];exact World.alloc_heap_new _ _
  have hP:A.heap.size<w2.heap.size:=(Array.getElem?_eq_some_iff.1 bP).1;have N:Hid (zd r w w2):=show zd _ _ _ by rw [L];exact (k0.trans G).alloc _
  have cd:=yB r g (o+5) (cap-1) t1 us1 [123] w2 h2 (fun hi=>(au.tail (zi hi)).ne)
  have ag:Hid (w2=A.alloc (.cells #[.string (zb t.s),.slice none 0 0,.int .i64 line] 74)):=L;have HB:Hid (w2.heap[w.heap.size]?=some rcZ∧w2.heap[A.heap.size]?=some (.cells #[.string (zb t.s),.slice none 0 0,.int .i64 line] 74 (0,0))):=⟨b2,bP⟩;clear L h1 G b0 b1 b2 bP k0 h2
  by_cases hc:zo t1 [123]=true
  ·simp only [if_pos hc] at cd
   rw [if_pos hc] at hres;go_wp2_with fail
   rw [←ag.out];refine cd.mono ?_;clear cd ag;rintro e w3 ⟨H,rfl,h3⟩;have ct:=hrow hk hc w3 _ _ h3 (N.out.trans H);have an:Hid (zd r w2 w3):=H;have aA:=H.size;clear hrow h3 H;go_wp2_with fail
   refine ct.mono ?_;clear ct;rintro e w4 ⟨ak,D⟩;have I:zd r w2 w4:=an.out.trans ak;rcases res with a | ⟨l,us⟩
   ·simp only at D hres
    obtain rfl:=D;subst hres;exact ⟨rfl,N.out.trans I,rfl⟩
   ·obtain ⟨v,g1,V,aq,o4,aa,rfl,al,aj⟩:=D
    simp only at hres;have U:ZU w3.heap.size w4 l v:=.inr ⟨g1,V,aq,al⟩;obtain ⟨O,T,Q,rfl⟩:=U.slice;have am:=hEnd l us rfl;obtain ⟨t5,af,rfl⟩:=am.cons;simp only [zz,List.tail_cons] at hres;have aw:=N.out.size;have ax:=I.size;have b4:=(I.block _ (by omega) (by omega)).trans HB.out.1
    have c4:=(I.block _ hP (by omega)).trans HB.out.2
    obtain ⟨-,ay,-,gf⟩:=qF c4;have av:=gf 1;obtain ⟨w5,J⟩:∃w5,w5=w4.setCell ⟨A.heap.size,1,none⟩ (.slice O T Q):=⟨_,rfl⟩;have y:∀k,k≠A.heap.size→w5.heap[k]?=w4.heap[k]?:=fun k hk=>by rw [J];exact Below.heap_setCell _ _ _ _ (by simpa using hk)
    have c5:w5.heap[A.heap.size]?=some (.cells #[.string (zb t.s),.slice O T Q,.int .i64 line] 74 (0,0)):=by rw [J];exact zn _ c4
    have b5:=(y w.heap.size (by omega)).trans b4
    have ap:w4.heap.size≤w5.heap.size:=by rw [J];simp
    have k5:zd r w w5:=by rw [J];exact (N.out.trans I).setOther (by simp;omega) _
    have ab:zf r g o4 aa (t5::af) w5:=aj.keep (y r (by omega)) (y g (by omega))
    have W:ZU w3.heap.size w5 l (.slice O T Q):=U.kept ap fun k hB _=>y k (by omega)
    have ao:=J.symm;have ce:=yB r g o4 aa t5 af [125] w5 ab (fun hi=>(am.tail (zi hi)).ne)
    have ai:Hid (zd r w w5):=k5;have ad:Hid (ZU w3.heap.size w5 l (.slice O T Q)):=W;have ae:Hid (w5.heap[w.heap.size]?=some rcZ∧w5.heap[A.heap.size]?=some (.cells #[.string (zb t.s),.slice O T Q,.int .i64 line] 74 (0,0))):=⟨b5,c5⟩;have ar:A.heap.size<w5.heap.size:=(Array.getElem?_eq_some_iff.1 c5).1;clear J y b4 c4 c5 b5 k5 ab aj gf ak I HB N an U W al
    by_cases hm:zo t5 [125]=true
    ·simp only [if_pos hm] at ce
     rw [if_pos hm] at hres;subst hres;go_wp2_with fail
     refine ce.mono ?_;clear ce ao;rintro e w6 ⟨z,rfl,h6⟩;have b6:=(z.block _ (by omega) (by omega)).trans ae.out.1
     have c6:=(z.block _ ar (by omega)).trans ae.out.2
     obtain ⟨e0,e1,e2,-⟩:=qF c6;obtain ⟨q0,q1,q2,qf⟩:=qF b6;have b7:=zn (j:=2) (.int .i64 line) (zn (j:=1) (.slice O T Q) (zn (j:=0) (.string (zb t.s)) b6));obtain ⟨z0,z1,z2,-⟩:=qF (x0:=.string (zb t.s)) (x1:=.slice O T Q) (x2:=.int .i64 line) b7;have Y:ZU w3.heap.size w6 l (.slice O T Q):=ad.out.kept z.size fun k hB hlt=>z.block k hlt (by omega)
     have k6:zd r w w6:=ai.out.trans z
     have Z:∀k,k≠w.heap.size→(((w6.setCell ⟨w.heap.size,0,none⟩ (.string (zb t.s))).setCell ⟨w.heap.size,1,none⟩ (.slice O T Q)).setCell ⟨w.heap.size,2,none⟩ (.int .i64 line)).heap[k]?=w6.heap[k]?:=fun k hk=>by
      rw [Below.heap_setCell _ _ _ _ (by simpa using hk),Below.heap_setCell _ _ _ _ (by simpa using hk),Below.heap_setCell _ _ _ _ (by simpa using hk)]
     have HP:Hid (XC r g w (.ok (⟨t.s,l,line⟩,af)) (.returned (.agg #[.string (zb t.s),.slice O T Q,.int .i64 line])) (((w6.setCell ⟨w.heap.size,0,none⟩ (.string (zb t.s))).setCell ⟨w.heap.size,1,none⟩ (.slice O T Q)).setCell ⟨w.heap.size,2,none⟩ (.int .i64 line))):=by
      refine ⟨((k6.setOther (p:=⟨w.heap.size,0,none⟩) (by simp) _).setOther (p:=⟨w.heap.size,1,none⟩) (by simp) _).setOther (p:=⟨w.heap.size,2,none⟩) (by simp) _,_,_,_,rfl,?_,h6.keep (Z r (by omega)) (Z g (by omega))⟩
      exact (Y.kept (by simp) fun k hB _=>Z k (by omega)).mono (by omega)
     clear b6 c6 b7 Y k6 Z z h6 ae ad ai;go_wp2
     exact bodyPost_ret (v:=.agg #[.string (zb t.s),.slice O T Q,.int .i64 line]) (by simp [results,Tryz.results53,go_sem,z0,z1,z2]) rfl HP.out
    ·simp only [if_neg hm] at ce
     rw [if_neg hm] at hres;subst hres;go_wp2_with fail
     refine ce.mono ?_;clear ce;rintro e w6 ⟨z,rfl⟩;exact ⟨rfl,ai.out.trans z,rfl⟩
  ·simp only [if_neg hc] at cd
   rw [if_neg hc] at hres;subst hres;go_wp2_with fail
   rw [←ag.out];refine cd.mono ?_;clear cd;rintro e w3 ⟨H,rfl⟩;exact ⟨rfl,N.out.trans H,rfl⟩
 ·simp only [if_neg hk] at cn
  rw [if_neg hk] at hres;subst hres
  go_enter Tryz.func53,Tryz.ntmps53
  go_wp2_with fail
  rw [←ah.out];refine cn.mono ?_;clear cn;rintro e A ⟨G,rfl⟩;exact ⟨rfl,k0.trans G,rfl⟩
inductive St where
 | mk (k:Nat) (s:List UInt8) (es:List Ex) (body els:List St) (line:Nat)
def xB (S:Nat→Prop) (w:World) (l:List St) (v:Value) (g cap:Nat) (us:List (List Value)):Prop :=
 (l=[]∧v=.slice none 0 0)∨(v=.slice (some ⟨g,0,none⟩) l.length cap∧l≠[]∧us.length=l.length∧S g∧g<w.heap.size∧l.length≤cap∧cap≤maxLen∧(∀j u,us.flatten[j]?=some u→w.cell? ⟨g,j,none⟩=some u)∧∀c∈us,c.length=6)
theorem xB.kept {S:Nat→Prop} {w w':World} {l:List St} {v:Value} {g cap:Nat} {us:List (List Value)} (h:xB S w l v g cap us) (hs:w.heap.size≤w'.heap.size) (hb:∀k,S k→k<w.heap.size→w'.heap[k]?=w.heap[k]?):xB S w' l v g cap us:=by
 rcases h with h | ⟨D,I,H,o,s,y,A,G,z⟩
 ·exact .inl h
 ·refine .inr ⟨D,I,H,o,Nat.lt_of_lt_of_le s hs,y,A,fun j u hj=>?_,z⟩
  rw [World.cell?_of_block (hb g o s)];exact G j u hj
theorem xB.wide {S S':Nat→Prop} {w:World} {l:List St} {v:Value} {g cap:Nat} {us:List (List Value)} (h:xB S w l v g cap us) (hS:∀k,S k→S' k):xB S' w l v g cap us:=by
 rcases h with h | ⟨D,I,H,o,z,s,A,G,y⟩
 ·exact .inl h
 ·exact .inr ⟨D,I,H,hS _ o,z,s,A,G,y⟩
theorem xB.low {S:Nat→Prop} {w:World} {l:List St} {v:Value} {g cap:Nat} {us:List (List Value)} (h:xB S w l v g cap us):xB (fun k=>S k∧k<w.heap.size) w l v g cap us:=by
 rcases h with h | ⟨D,I,H,s,o,y,A,G,z⟩
 ·exact .inl h
 ·exact .inr ⟨D,I,H,⟨s,o⟩,o,y,A,G,z⟩
theorem zI.lower {S:Nat→Prop} {w:World} {l:List Ex} {v:Value} (h:zI S w l v):zI (fun k=>S k∧k<w.heap.size) w l v:=zI.low h
inductive yg (S:Nat→Prop) (w:World):St→Value→Prop where
 | mk (k:Nat) (s:List UInt8) (es:List Ex) (body els:List St) (line:Nat) (ve vb vl:Value) (gb cb gl cl:Nat) (ub ul:List (List Value)) (he:zI S w es ve)
   (hb:xB S w body vb gb cb ub) (hbk:∀(j:Nat) (x:St) (c:List Value),body[j]?=some x→ub[j]?=some c→yg S w x (.agg c.toArray))
   (hl:xB S w els vl gl cl ul) (hlk:∀(j:Nat) (x:St) (c:List Value),els[j]?=some x→ul[j]?=some c→yg S w x (.agg c.toArray)) :
   yg S w (.mk k s es body els line) (.agg #[.int .i64 k,.string (zb s),ve,vb,vl,.int .i64 line])
theorem yg.kept {S:Nat→Prop} {w w':World} {x:St} {v:Value} (h:yg S w x v) (hs:w.heap.size≤w'.heap.size) (hb:∀k,S k→k<w.heap.size→w'.heap[k]?=w.heap[k]?):yg S w' x v:=by
 induction h with
 | mk k s es body els line ve vb vl gb cb gl cl ub ul he hbr hbk hl hlk ih1 ih2 =>
  exact .mk k s es body els line ve vb vl gb cb gl cl ub ul (he.kept hs hb) (hbr.kept hs hb) ih1 (hl.kept hs hb) ih2
theorem yg.wide {S S':Nat→Prop} {w:World} {x:St} {v:Value} (h:yg S w x v) (hS:∀k,S k→S' k):yg S' w x v:=by
 induction h with
 | mk k s es body els line ve vb vl gb cb gl cl ub ul he hbr hbk hl hlk ih1 ih2 =>
  exact .mk k s es body els line ve vb vl gb cb gl cl ub ul (he.wide hS) (hbr.wide hS) ih1 (hl.wide hS) ih2
theorem yg.low {S:Nat→Prop} {w:World} {x:St} {v:Value} (h:yg S w x v):yg (fun k=>S k∧k<w.heap.size) w x v:=by
 induction h with
 | mk k s es body els line ve vb vl gb cb gl cl ub ul he hbr hbk hl hlk ih1 ih2 =>
  exact .mk k s es body els line ve vb vl gb cb gl cl ub ul he.lower hbr.low ih1 hl.low ih2
def StE (S:Nat→Prop) (w:World) (x:St) (c:List Value):Prop:=yg S w x (.agg c.toArray)
theorem ui:Z2 StE:=⟨fun h hs hb=>yg.kept h hs hb,fun h hS=>yg.wide h hS,fun h=>yg.low h⟩
def z6 (S:Nat→Prop) (w:World) (l:List St) (v:Value):Prop :=
 ∃g cap us,xB S w l v g cap us∧∀(j:Nat) (x:St) (c:List Value),l[j]?=some x→us[j]?=some c→yg S w x (.agg c.toArray)
theorem z6.nil (S:Nat→Prop) (w:World):z6 S w [] (.slice none 0 0):=⟨0,0,[],.inl ⟨rfl,rfl⟩,fun j x c h=>by simp at h⟩
theorem z6.kept {S:Nat→Prop} {w w':World} {l:List St} {v:Value} (h:z6 S w l v) (hs:w.heap.size≤w'.heap.size) (hb:∀k,S k→k<w.heap.size→w'.heap[k]?=w.heap[k]?):z6 S w' l v:=by
 obtain ⟨g,o,z,s,y⟩:=h;exact ⟨g,o,z,s.kept hs hb,fun j x c hx hc=>(y j x c hx hc).kept hs hb⟩
theorem z6.wide {S S':Nat→Prop} {w:World} {l:List St} {v:Value} (h:z6 S w l v) (hS:∀k,S k→S' k):z6 S' w l v:=by
 obtain ⟨g,o,z,s,y⟩:=h;exact ⟨g,o,z,s.wide hS,fun j x c hx hc=>(y j x c hx hc).wide hS⟩
theorem z6.slice {S:Nat→Prop} {w:World} {l:List St} {v:Value} (h:z6 S w l v):∃d0 d1 d2,v=.slice d0 d1 d2:=by
 obtain ⟨g,o,s,⟨_,rfl⟩ | ⟨rfl,_⟩,_⟩:=h
 ·exact ⟨_,_,_,rfl⟩
 ·exact ⟨_,_,_,rfl⟩
theorem yg.of {S:Nat→Prop} {w:World} {es:List Ex} {body els:List St} {ve vb vl:Value} (k:Nat) (s:List UInt8) (line:Nat) (he:zI S w es ve) (hb:z6 S w body vb) (hl:z6 S w els vl) :
  yg S w (.mk k s es body els line) (.agg #[.int .i64 k,.string (zb s),ve,vb,vl,.int .i64 line]):=by
 obtain ⟨o,G,J,A,I⟩:=hb;obtain ⟨y,z,D,H,h⟩:=hl;exact .mk k s es body els line ve vb vl o G y z J D he A I H h
theorem Zf.sts {ty B:Nat} {w:World} {l:List St} {v:Value} {g cap:Nat} {us:List (List Value)} (h:Zf StE 6 ty B w l v g cap us):z6 (fun k=>B≤k) w l v:=by
 have s:=h.block;refine ⟨g,cap,us,.inr ⟨h.val,h.ne,h.len,s.1,s.2.1,s.2.2.1,s.2.2.2,fun j u hj=>?_,h.wid⟩,fun j x c o hc=>yg.wide (h.kids j x c o hc) fun k hk=>hk.1⟩
 have o:=h.own.cells (g:=g) (by rw [h.val];rfl) j u hj
 by_cases h0:j=0
 ·subst h0;simpa [Addr.add] using o
 ·simpa [Addr.add,h0] using o
def ZG (r g:Nat) (w:World) (res:PR St) (e:Ending) (w':World):Prop :=
 zd r w w'∧match res with
  | .error a=>e=ZH a
  | .ok (x,ts)=>∃v o cap,e=.returned v∧yg (fun k=>w.heap.size≤k) w' x v∧zf r g o cap ts w'
def XD (r g:Nat) (w:World) (res:PR (List St)) (e:Ending) (w':World):Prop :=
 zd r w w'∧match res with
  | .error a=>e=ZH a
  | .ok (l,ts)=>∃v o cap,e=.returned v∧z6 (fun k=>w.heap.size≤k) w' l v∧zf r g o cap ts w'
def Yy (e:Ex):Bool:=e.kind==4||e.kind==8||e.kind==9
mutual
def Zw:Nat→List Tk→Option (PR St)
 | 0,_=>none
 | f+1,ts =>
  if zo (zw ts) [108,101,116]=true then zm (yo ts.tail) fun s us=>zm (zW [61] us) fun _ us=>zm (zh f 1 us) fun e us=>zm (zW [59] us) fun _ us=>some (.ok (.mk 1 s [e] [] [] (zw ts).line,us))
  else if zo (zw ts) [105,102]=true then zm (zh f 1 ts.tail) fun e us=>zm (zO f us) fun b us=>if zo (zw us) [101,108,115,101]=true then zm (zO f us.tail) fun c us=>some (.ok (.mk 4 [] [e] b c (zw ts).line,us)) else some (.ok (.mk 3 [] [e] b [] (zw ts).line,us))
  else if zo (zw ts) [119,104,105,108,101]=true then zm (zh f 1 ts.tail) fun e us=>zm (zO f us) fun b us=>some (.ok (.mk 5 [] [e] b [] (zw ts).line,us))
  else if zo (zw ts) [114,101,116,117,114,110]=true then if zo (zw ts.tail) [59]=true then some (.ok (.mk 6 [] [] [] [] (zw ts).line,ts.tail.tail)) else zm (zh f 1 ts.tail) fun e us=>zm (zW [59] us) fun _ us=>some (.ok (.mk 6 [] [e] [] [] (zw ts).line,us))
  else zm (zh f 1 ts) fun e us=>if zo (zw us) [61]=true then (if Yy e=true then zm (zh f 1 us.tail) fun e2 us=>zm (zW [59] us) fun _ us=>some (.ok (.mk 2 [] [e,e2] [] [] (zw ts).line,us)) else some (.error (zw us).at0)) else zm (zW [59] us) fun _ us=>some (.ok (.mk 7 [] [e] [] [] (zw ts).line,us))
def zO:Nat→List Tk→Option (PR (List St))
 | 0,_=>none
 | f+1,ts=>zm (zW [123] ts) fun _ us=>Zn f [] us
def Zn:Nat→List St→List Tk→Option (PR (List St))
 | 0,_,_=>none
 | f+1,pre,ts=>if zo (zw ts) [125]=true then some (.ok (pre,ts.tail)) else zm (Zw f ts) fun s us=>Zn f (pre++[s]) us
end
theorem yO {α β:Type} {x:Option (PR α)} {k l:α→List Tk→Option (PR β)} {r:PR β} (h:zm x k=some r) (hk:∀a ts r,k a ts=some r→l a ts=some r):zm x l=some r:=zD h (fun _ h=>h) hk
theorem U1 (f:Nat) :
  (∀ts r,Zw f ts=some r→Zw (f+1) ts=some r)∧(∀ts r,zO f ts=some r→zO (f+1) ts=some r)∧(∀pre ts r,Zn f pre ts=some r→Zn (f+1) pre ts=some r):=by
 induction f with
 | zero=>refine ⟨?_,?_,?_⟩ <;> intros <;> rename_i h <;> simp [Zw,zO,Zn] at h
 | succ f ih =>
  obtain ⟨A,y,z⟩:=ih;have s:=(uH f).1;refine ⟨fun ts r h=>?_,fun ts r h=>?_,fun pre ts r h=>?_⟩
  ·rw [Zw] at h ⊢
   split at h
   ·rename_i o;rw [if_pos o]
    exact yO h fun _ _ _ h=>yO h fun _ _ _ h=>zD h (s _ _) fun _ _ _ h=>h
   ·rename_i o;rw [if_neg o]
    split at h
    ·rename_i o;rw [if_pos o]
     refine zD h (s _ _) fun _ _ _ h=>zD h (y _) fun _ _ _ h=>?_
     split at h
     ·rename_i o;rw [if_pos o];exact zD h (y _) fun _ _ _ h=>h
     ·rename_i o;rw [if_neg o];exact h
    ·rename_i o;rw [if_neg o]
     split at h
     ·rename_i o;rw [if_pos o]
      exact zD h (s _ _) fun _ _ _ h=>zD h (y _) fun _ _ _ h=>h
     ·rename_i o;rw [if_neg o]
      split at h
      ·rename_i o;rw [if_pos o]
       split at h
       ·rename_i o;rw [if_pos o];exact h
       ·rename_i o;rw [if_neg o];exact zD h (s _ _) fun _ _ _ h=>h
      ·rename_i o;rw [if_neg o]
       refine zD h (s _ _) fun _ _ _ h=>?_
       split at h
       ·rename_i o;rw [if_pos o]
        split at h
        ·rename_i o;rw [if_pos o];exact zD h (s _ _) fun _ _ _ h=>h
        ·rename_i o;rw [if_neg o];exact h
       ·rename_i o;rw [if_neg o];exact h
  ·rw [zO] at h ⊢
   exact yO h fun _ _ _ h=>z _ _ _ h
  ·rw [Zn] at h ⊢
   split at h
   ·rename_i o;rw [if_pos o];exact h
   ·rename_i o;rw [if_neg o];exact zD h (A _) fun _ _ _ h=>z _ _ _ h
theorem XR (f:Nat) :
  (∀ts x us,Zw f ts=some (.ok (x,us))→zg ts→zg us)∧(∀ts x us,zO f ts=some (.ok (x,us))→zg ts→zg us)∧(∀pre ts x us,Zn f pre ts=some (.ok (x,us))→zg ts→zg us):=by
 induction f with
 | zero=>refine ⟨?_,?_,?_⟩ <;> intros <;> simp_all [Zw,zO,Zn]
 | succ f ih =>
  obtain ⟨L,I,J⟩:=ih;have z:=(Ze f).1;refine ⟨fun ts x us h hE=>?_,fun ts x us h hE=>?_,fun pre ts x us h hE=>?_⟩
  ·rw [Zw] at h
   split at h
   ·rename_i o
    obtain ⟨_,_,s,h⟩:=za h;obtain ⟨_,_,y,h⟩:=za h;obtain ⟨_,_,G,h⟩:=za h;obtain ⟨_,_,K,h⟩:=za h;exact z8 h (zU K (z _ _ _ _ G (zU y (ZM s (zy hE o)))))
   ·split at h
    ·rename_i o
     obtain ⟨_,_,s,h⟩:=za h;obtain ⟨_,_,y,h⟩:=za h;have D:=I _ _ _ y (z _ _ _ _ s (zy hE o))
     split at h
     ·rename_i o
      obtain ⟨_,_,G,h⟩:=za h;exact z8 h (I _ _ _ G (zy D o))
     ·exact z8 h D
    ·split at h
     ·rename_i o
      obtain ⟨_,_,s,h⟩:=za h;obtain ⟨_,_,y,h⟩:=za h;exact z8 h (I _ _ _ y (z _ _ _ _ s (zy hE o)))
     ·split at h
      ·rename_i o
       split at h
       ·rename_i H
        exact z8 h (zy (zy hE o) H)
       ·obtain ⟨_,_,s,h⟩:=za h
        obtain ⟨_,_,y,h⟩:=za h;exact z8 h (zU y (z _ _ _ _ s (zy hE o)))
      ·obtain ⟨_,_,s,h⟩:=za h
       have A:=z _ _ _ _ s hE
       split at h
       ·rename_i o
        split at h
        ·obtain ⟨_,_,y,h⟩:=za h
         obtain ⟨_,_,G,h⟩:=za h;exact z8 h (zU G (z _ _ _ _ y (zy A o)))
        ·simp at h
       ·obtain ⟨_,_,y,h⟩:=za h
        exact z8 h (zU y A)
  ·rw [zO] at h
   obtain ⟨_,_,s,h⟩:=za h;exact J _ _ _ _ h (zU s hE)
  ·rw [Zn] at h
   split at h
   ·rename_i o;exact z8 h (zy hE o)
   ·obtain ⟨_,_,s,h⟩:=za h
    exact J _ _ _ _ h (L _ _ _ s hE)
abbrev xf:Obj:=.cells #[.int .i64 0,.string ⟨#[]⟩,.slice none 0 0,.slice none 0 0,.slice none 0 0,.int .i64 0] 108
abbrev Xf (w:World) (N:Nat) (a b c d e f:Value):World:=(set5 w N a b c d e).setCell ⟨N,5,none⟩ f
theorem zJ {w:World} {N:Nat} {x0 x1 x2 x3 x4 x5:Value} {ty:TypeId} (h:w.heap[N]?=some (.cells #[x0,x1,x2,x3,x4,x5] ty (0,0))) :
  w.cell? ⟨N,0,none⟩=some x0∧w.cell? ⟨N,1,none⟩=some x1∧w.cell? ⟨N,2,none⟩=some x2∧w.cell? ⟨N,3,none⟩=some x3∧w.cell? ⟨N,4,none⟩=some x4∧w.cell? ⟨N,5,none⟩=some x5∧∀j,w.frozen? ⟨N,j,none⟩=false:=by
 refine ⟨?_,?_,?_,?_,?_,?_,fun j=>?_⟩
 ·simp only [World.cell?,h];rfl
 ·simp only [World.cell?,h];rfl
 ·simp only [World.cell?,h];rfl
 ·simp only [World.cell?,h];rfl
 ·simp only [World.cell?,h];rfl
 ·simp only [World.cell?,h];rfl
 ·simp only [World.frozen?,h];simp
theorem Zq {w:World} {N:Nat} {x0 x1 x2 x3 x4 x5:Value} {ty:TypeId} (h:w.heap[N]?=some (.cells #[x0,x1,x2,x3,x4,x5] ty (0,0))) (a b c d e f:Value):(Xf w N a b c d e f).heap[N]?=some (.cells #[a,b,c,d,e,f] ty (0,0)) :=
 zn f (zn e (zn d (zn c (zn b (zn a h)))))
theorem Ye (w:World) (N:Nat) (a b c d e f:Value) {k:Nat} (hk:k≠N):(Xf w N a b c d e f).heap[k]?=w.heap[k]?:=by
 rw [Below.heap_setCell _ _ _ _ (by simpa using hk)];exact zr w N a b c d e hk
theorem Y4 {r:Nat} {w0 w:World} {N:Nat} (h:zd r w0 w) (hN:w0.heap.size≤N) (a b c d e f:Value):zd r w0 (Xf w N a b c d e f) :=
 (ZO h hN a b c d e).setOther (p:=⟨N,5,none⟩) hN f
theorem ZG.of_set6 {r g o cap N B:Nat} {w w5:World} {us:List Tk} {es:List Ex} {body els:List St} {ve vb vl:Value} (k:Nat) (s:List UInt8) (line:Nat) (hK:zd r w w5) (hN:w.heap.size≤N) (hr:r<w.heap.size) (hg:g<w.heap.size)
  (he:zI (fun j=>B≤j) w5 es ve) (hb:z6 (fun j=>B≤j) w5 body vb) (hl:z6 (fun j=>B≤j) w5 els vl) (hB:N<B) (hrd:zf r g o cap us w5) :
  ZG r g w (.ok (.mk k s es body els line,us)) (.returned (.agg #[.int .i64 k,.string (zb s),ve,vb,vl,.int .i64 line])) (Xf w5 N (.int .i64 k) (.string (zb s)) ve vb vl (.int .i64 line)):=by
 refine ⟨Y4 hK hN _ _ _ _ _ _,_,o,cap,rfl,?_,hrd.keep (Ye _ _ _ _ _ _ _ _ (by omega)) (Ye _ _ _ _ _ _ _ _ (by omega))⟩
 have y:w5.heap.size≤(Xf w5 N (.int .i64 k) (.string (zb s)) ve vb vl (.int .i64 line)).heap.size:=by simp
 have h:∀j,B≤j→j<w5.heap.size→(Xf w5 N (.int .i64 k) (.string (zb s)) ve vb vl (.int .i64 line)).heap[j]?=w5.heap[j]?:=fun j hj _=>Ye _ _ _ _ _ _ _ _ (by omega)
 exact yg.wide (yg.of k s line (he.kept y h) (hb.kept y h) (hl.kept y h)) fun j hj=>by omega
def qG (t t1:Tk) (res:PR Ex):PR St :=
 if t.k=1 then
  if zo t1 [61]=true then
   match res with
   | .error a=>.error a
   | .ok (e,us)=>if zo (zw us) [59]=true then .ok (.mk 1 t.s [e] [] [] 0,us.tail) else .error (zw us).at0
  else .error t1.at0
 else .error t.at0
theorem zfk (r g o cap:Nat) (t t1:Tk) (us1:List Tk) (w:World) (res:PR Ex) (h:zf r g o cap (t::t1::us1) w) (hE:zg (t::t1::us1)) (hEnd:∀l us,res=.ok (l,us)→zg us)
  (hex:t.k=1→zo t1 [61]=true→∀z o1 cap1,zf r g o1 cap1 us1 z→zd r w z→Calls Tryz.prog 44 #[.pointer (some ⟨r,0,none⟩)] z (zH r g z res)) :
  Calls Tryz.prog 166 #[.pointer (some ⟨r,0,none⟩)] w (ZG r g w (qG t t1 res)):=by
 generalize hres:qG t t1 res=R;have hr:=h.lt.1;have am:=h.lt.2;obtain ⟨w0,K⟩:∃w0,w0=w.alloc xf:=⟨_,rfl⟩;have h0:zf r g o cap (t::t1::us1) w0:=by rw [K];exact h.alloc _
 have k0:zd r w w0:=by rw [K];exact (zd.refl r w).alloc _
 have b0:w0.heap[w.heap.size]?=some xf:=by rw [K];exact World.alloc_heap_new _ _
 have az:w0.heap.size=w.heap.size+1:=by rw [K];simp
 have cn:=xe r g o cap t (t1::us1) w0 h0 (fun _=>by simp)
 have ae:Hid (w0=w.alloc xf):=K
 unfold qG at hres
 clear h h0 K
 by_cases hk:t.k=1
 ·simp only [if_pos hk] at cn
  rw [if_pos hk] at hres;have ao:=hE.tail (by omega:t.k≠0)
  go_enter Tryz.func166,Tryz.ntmps166
  go_wp2_with fail
  rw [←ae.out];refine cn.mono ?_;clear cn ae;rintro e z ⟨H,rfl,h1⟩;obtain ⟨w2,L⟩:∃w2,w2=z.alloc (.cells #[.int .i64 1,.string (zb t.s),.slice none 0 0,.slice none 0 0,.slice none 0 0,.int .i64 0] 108):=⟨_,rfl⟩;have h2:zf r g (o+5) (cap-1) (t1::us1) w2:=by rw [L];exact h1.alloc _
  have aA:=H.size;have b1:=(H.block _ (by omega) (by omega)).trans b0
  have b2:w2.heap[w.heap.size]?=some xf:=by rw [L];exact (Below.heap_alloc _ _ _ (by omega)).trans b1
  have bP:w2.heap[z.heap.size]?=some (.cells #[.int .i64 1,.string (zb t.s),.slice none 0 0,.slice none 0 0,.slice none 0 0,.int .i64 0] 108 (0,0)):=by rw [L];exact World.alloc_heap_new _ _
  have hP:z.heap.size<w2.heap.size:=(Array.getElem?_eq_some_iff.1 bP).1;have N:Hid (zd r w w2):=show zd _ _ _ by rw [L];exact (k0.trans H).alloc _
  have cd:=yB r g (o+5) (cap-1) t1 us1 [61] w2 h2 (fun hi=>(ao.tail (zi hi)).ne)
  have ad:Hid (w2=z.alloc (.cells #[.int .i64 1,.string (zb t.s),.slice none 0 0,.slice none 0 0,.slice none 0 0,.int .i64 0] 108)):=L;have HB:Hid (w2.heap[w.heap.size]?=some xf∧w2.heap[z.heap.size]?=some (.cells #[.int .i64 1,.string (zb t.s),.slice none 0 0,.slice none 0 0,.slice none 0 0,.int .i64 0] 108 (0,0))):=⟨b2,bP⟩;clear L h1 H b0 b1 b2 bP k0 h2
  by_cases hc:zo t1 [61]=true
  ·simp only [if_pos hc] at cd
   rw [if_pos hc] at hres;go_wp2_with fail
   rw [←ad.out];refine cd.mono ?_;clear cd ad;rintro e W ⟨I,rfl,h3⟩;have ct:=hex hk hc W _ _ h3 (N.out.trans I);have ak:Hid (zd r w2 W):=I;have aw:=I.size;clear hex h3 I;go_wp2_with fail
   refine ct.mono ?_;clear ct;rintro e w4 ⟨aa,G⟩;have J:zd r w2 w4:=ak.out.trans aa;rcases res with a | ⟨x,us⟩
   ·simp only at G hres
    obtain rfl:=G;subst hres;exact ⟨rfl,N.out.trans J,rfl⟩
   ·obtain ⟨v,o4,U,rfl,hx,ai⟩:=G
    obtain ⟨xa,xb,xc,x0,x1,x2,xl,rfl⟩:=hx.agg;simp only at hres;have aj:=hEnd x us rfl;obtain ⟨t5,ab,rfl⟩:=aj.cons;simp only [zz,List.tail_cons] at hres;have au:=N.out.size;have av:=J.size;have aq:=aa.size;have b4:=(J.block _ (by omega) (by omega)).trans HB.out.1
    have c4:=(J.block _ hP (by omega)).trans HB.out.2
    have ag:∀ob,(w4.alloc ob).heap[z.heap.size]?=some (.cells #[.int .i64 1,.string (zb t.s),.slice none 0 0,.slice none 0 0,.slice none 0 0,.int .i64 0] 108 (0,0)):=fun ob=>(Below.heap_alloc _ _ _ (by omega)).trans c4
    obtain ⟨-,-,g2,-,-,-,gf⟩:=zJ c4;have ax:=zj g2;have ay:w4.frozen? ⟨z.heap.size,2,none⟩=false:=gf 2;have ar:∀ob,(w4.alloc ob).frozen? ⟨z.heap.size,2,none⟩=false:=fun ob=>(zJ (ag ob)).2.2.2.2.2.2 2
    have ap:z.heap.size<w4.heap.size:=by omega
    obtain ⟨w5,af⟩:∃w5,w5=(w4.setCell ⟨z.heap.size,2,none⟩ (.slice (some ⟨w4.heap.size,0,none⟩) 1 1)).alloc (.cells #[.int .i64 xa,.string xb,.int .i64 xc,.slice x0 x1 x2,.int .i64 xl] 45):=⟨_,rfl⟩;have A:w5=(w4.alloc (.cells #[.int .i64 xa,.string xb,.int .i64 xc,.slice x0 x1 x2,.int .i64 xl] 45)).setCell ⟨z.heap.size,2,none⟩ (.slice (some ⟨w4.heap.size,0,none⟩) 1 1):=by rw [af,World.setCell_alloc_past _ _ _ _ ap]
    have y:∀k,k≠z.heap.size→w5.heap[k]?=(w4.alloc (.cells #[.int .i64 xa,.string xb,.int .i64 xc,.slice x0 x1 x2,.int .i64 xl] 45)).heap[k]?:=fun k hk=>by rw [A];exact Below.heap_setCell _ _ _ _ (by simpa using hk)
    have c5:w5.heap[z.heap.size]?=some (.cells #[.int .i64 1,.string (zb t.s),.slice (some ⟨w4.heap.size,0,none⟩) 1 1,.slice none 0 0,.slice none 0 0,.int .i64 0] 108 (0,0)):=by rw [A];exact zn _ (ag _)
    have b5:=(y w.heap.size (by omega)).trans ((Below.heap_alloc _ _ _ (by omega)).trans b4)
    have k5:zd r w w5:=by rw [A];exact ((N.out.trans J).alloc _).setOther (by simp;omega) _
    have V:zf r g o4 U (t5::ab) w5:=(ai.alloc (.cells #[.int .i64 xa,.string xb,.int .i64 xc,.slice x0 x1 x2,.int .i64 xl] 45)).keep (y r (by omega)) (y g (by omega))
    have O:=zI.one (S:=fun k=>W.heap.size≤k) 45 (c:=[.int .i64 xa,.string xb,.int .i64 xc,.slice x0 x1 x2,.int .i64 xl]) hx rfl (by omega)
    have Q:zI (fun k=>W.heap.size≤k) w5 [x] (.slice (some ⟨w4.heap.size,0,none⟩) 1 1):=O.kept (by rw [A];simp) fun k hk _=>y k (by omega)
    have al:=af.symm;have ce:=yB r g o4 U t5 ab [59] w5 V (fun hi=>(aj.tail (zi hi)).ne)
    have ah:Hid (zd r w w5):=k5;have Y:Hid (zI (fun k=>W.heap.size≤k) w5 [x] (.slice (some ⟨w4.heap.size,0,none⟩) 1 1)):=Q
    have Z:Hid (w5.heap[w.heap.size]?=some xf∧w5.heap[z.heap.size]?=some (.cells #[.int .i64 1,.string (zb t.s),.slice (some ⟨w4.heap.size,0,none⟩) 1 1,.slice none 0 0,.slice none 0 0,.int .i64 0] 108 (0,0))):=⟨b5,c5⟩;have an:z.heap.size<w5.heap.size:=(Array.getElem?_eq_some_iff.1 c5).1;clear af A y b4 c4 ag c5 b5 k5 V ai gf aa J HB N ak hx O Q
    by_cases hm:zo t5 [59]=true
    ·simp only [if_pos hm] at ce
     rw [if_pos hm] at hres;subst hres;go_wp2_with fail
     refine ce.mono ?_;clear ce al;rintro e w6 ⟨D,rfl,h6⟩;have b6:=(D.block _ (by omega) (by omega)).trans Z.out.1
     have c6:=(D.block _ an (by omega)).trans Z.out.2
     obtain ⟨e0,e1,e2,e3,e4,e5,-⟩:=zJ c6;obtain ⟨q0,q1,q2,q3,q4,q5,qf⟩:=zJ b6;obtain ⟨z0,z1,z2,z3,z4,z5,-⟩:=zJ (Zq b6 (.int .i64 1) (.string (zb t.s)) (.slice (some ⟨w4.heap.size,0,none⟩) 1 1) (.slice none 0 0) (.slice none 0 0) (.int .i64 0));have T:zI (fun k=>W.heap.size≤k) w6 [x] (.slice (some ⟨w4.heap.size,0,none⟩) 1 1):=Y.out.kept D.size fun k hk hlt=>D.block k hlt (by omega)
     have HP:Hid (ZG r g w (.ok (.mk 1 t.s [x] [] [] 0,ab)) (.returned (.agg #[.int .i64 1,.string (zb t.s),.slice (some ⟨w4.heap.size,0,none⟩) 1 1,.slice none 0 0,.slice none 0 0,.int .i64 0])) (Xf w6 w.heap.size (.int .i64 1) (.string (zb t.s)) (.slice (some ⟨w4.heap.size,0,none⟩) 1 1) (.slice none 0 0) (.slice none 0 0) (.int .i64 0))) :=
      ZG.of_set6 (B:=W.heap.size) 1 t.s 0 (ah.out.trans D) (Nat.le_refl _) hr am T (z6.nil _ _) (z6.nil _ _) (by omega) h6
     clear b6 c6 T D h6 Z Y ah;go_wp2
     exact bodyPost_ret (v:=.agg #[.int .i64 1,.string (zb t.s),.slice (some ⟨w4.heap.size,0,none⟩) 1 1,.slice none 0 0,.slice none 0 0,.int .i64 0]) (by simp [results,Tryz.results166,go_sem,z0,z1,z2,z3,z4,z5]) rfl HP.out
    ·simp only [if_neg hm] at ce
     rw [if_neg hm] at hres;subst hres;go_wp2_with fail
     refine ce.mono ?_;clear ce;rintro e w6 ⟨D,rfl⟩;exact ⟨rfl,ah.out.trans D,rfl⟩
  ·simp only [if_neg hc] at cd
   rw [if_neg hc] at hres;subst hres;go_wp2_with fail
   rw [←ad.out];refine cd.mono ?_;clear cd;rintro e W ⟨I,rfl⟩;exact ⟨rfl,N.out.trans I,rfl⟩
 ·simp only [if_neg hk] at cn
  rw [if_neg hk] at hres;subst hres
  go_enter Tryz.func166,Tryz.ntmps166
  go_wp2_with fail
  rw [←ae.out];refine cn.mono ?_;clear cn;rintro e z ⟨H,rfl⟩;exact ⟨rfl,k0.trans H,rfl⟩
def YY (t:Tk) (ts:List Tk) (res:PR Ex):PR St :=
 if zo t [59]=true then .ok (.mk 6 [] [] [] [] 0,ts) else
 match res with
 | .error a=>.error a
 | .ok (e,us)=>if zo (zw us) [59]=true then .ok (.mk 6 [] [e] [] [] 0,us.tail) else .error (zw us).at0
theorem QM (r g o cap:Nat) (t:Tk) (ts:List Tk) (w:World) (res:PR Ex) (h:zf r g o cap (t::ts) w) (hE:zg (t::ts)) (hEnd:∀l us,res=.ok (l,us)→zg us)
  (hex:zo t [59]=false→∀w1 o1 cap1,zf r g o1 cap1 (t::ts) w1→zd r w w1→Calls Tryz.prog 44 #[.pointer (some ⟨r,0,none⟩)] w1 (zH r g w1 res)) :
  Calls Tryz.prog 168 #[.pointer (some ⟨r,0,none⟩)] w (ZG r g w (YY t ts res)):=by
 generalize hres:YY t ts res=R;have hr:=h.lt.1;have ah:=h.lt.2;obtain ⟨w2,H⟩:∃w2,w2=(w.alloc xf).alloc (.cells #[.int .i64 6,.string ⟨#[]⟩,.slice none 0 0,.slice none 0 0,.slice none 0 0,.int .i64 0] 108):=⟨_,rfl⟩;have h2:zf r g o cap (t::ts) w2:=by rw [H];exact (h.alloc _).alloc _
 have k2:zd r w w2:=by rw [H];exact ((zd.refl r w).alloc _).alloc _
 have b2:w2.heap[w.heap.size]?=some xf:=by rw [H,Below.heap_alloc _ _ _ (by simp)];exact World.alloc_heap_new _ _
 have bP:w2.heap[w.heap.size+1]?=some (.cells #[.int .i64 6,.string ⟨#[]⟩,.slice none 0 0,.slice none 0 0,.slice none 0 0,.int .i64 0] 108 (0,0)):=by
  rw [H]
  have:=World.alloc_heap_new (w.alloc xf) (.cells #[.int .i64 6,.string ⟨#[]⟩,.slice none 0 0,.slice none 0 0,.slice none 0 0,.int .i64 0] 108)
  simpa using this
 have hP:w.heap.size+1<w2.heap.size:=(Array.getElem?_eq_some_iff.1 bP).1;have D:Hid (zd r w w2):=k2;have N:Hid (w2=(w.alloc xf).alloc (.cells #[.int .i64 6,.string ⟨#[]⟩,.slice none 0 0,.slice none 0 0,.slice none 0 0,.int .i64 0] 108)):=H;have HB:Hid (w2.heap[w.heap.size]?=some xf∧w2.heap[w.heap.size+1]?=some (.cells #[.int .i64 6,.string ⟨#[]⟩,.slice none 0 0,.slice none 0 0,.slice none 0 0,.int .i64 0] 108 (0,0))):=⟨b2,bP⟩;have cs:=Zt r g o cap t ts [59] w2 h2 (fun hi=>(hE.tail (zi hi)).ne)
 unfold YY at hres
 clear h H h2 k2 b2 bP
 by_cases hi:zo t [59]=true
 ·rw [hi] at cs
  rw [if_pos hi] at hres;subst hres;clear hex hEnd
  go_enter Tryz.func168,Tryz.ntmps168
  go_wp2_with fail
  rw [←N.out];refine cs.mono ?_;clear cs N;rintro e w6 ⟨rfl,s,ad⟩;have h6:zf r g (o+5) (cap-1) ts w6:=by simpa using ad
  have U:=(s.block _ (by omega) (by omega)).trans HB.out.1
  have c6:=(s.block _ hP (by omega)).trans HB.out.2
  obtain ⟨e0,e1,e2,e3,e4,e5,-⟩:=zJ c6;obtain ⟨q0,q1,q2,q3,q4,q5,qf⟩:=zJ U;obtain ⟨z0,z1,z2,z3,z4,z5,-⟩:=zJ (Zq U (.int .i64 6) (.string ⟨#[]⟩) (.slice none 0 0) (.slice none 0 0) (.slice none 0 0) (.int .i64 0))
  have HP:Hid (ZG r g w (.ok (.mk 6 [] [] [] [] 0,ts)) (.returned (.agg #[.int .i64 6,.string ⟨#[]⟩,.slice none 0 0,.slice none 0 0,.slice none 0 0,.int .i64 0])) (Xf w6 w.heap.size (.int .i64 6) (.string ⟨#[]⟩) (.slice none 0 0) (.slice none 0 0) (.slice none 0 0) (.int .i64 0))) :=
   ZG.of_set6 (B:=w.heap.size+1) 6 [] 0 (D.out.trans s) (Nat.le_refl _) hr ah (.inl ⟨rfl,rfl⟩) (z6.nil _ _) (z6.nil _ _) (Nat.lt_succ_self _) h6
  clear U c6 s h6 ad HB D;go_wp2
  exact bodyPost_ret (v:=.agg #[.int .i64 6,.string ⟨#[]⟩,.slice none 0 0,.slice none 0 0,.slice none 0 0,.int .i64 0]) (by simp [results,Tryz.results168,go_sem,z0,z1,z2,z3,z4,z5]) rfl HP.out
 ·have af:zo t [59]=false:=by simpa using hi
  rw [af] at cs;rw [if_neg hi] at hres
  go_enter Tryz.func168,Tryz.ntmps168
  go_wp2_with fail
  rw [←N.out];refine cs.mono ?_;clear cs N;rintro e w3 ⟨rfl,L,ak⟩;have h3:zf r g o cap (t::ts) w3:=by simpa using ak
  have ct:=hex af w3 _ _ h3 (D.out.trans L);have ai:Hid (zd r w2 w3):=L;have ar:=L.size;clear hex h3 ak L;go_wp2_with fail
  refine ct.mono ?_;clear ct;rintro e w4 ⟨W,A⟩;have G:zd r w2 w4:=ai.out.trans W;rcases res with a | ⟨x,us⟩
  ·simp only at A hres
   obtain rfl:=A;subst hres;exact ⟨rfl,D.out.trans G,rfl⟩
  ·obtain ⟨v,o4,O,rfl,hx,ae⟩:=A
   obtain ⟨xa,xb,xc,x0,x1,x2,xl,rfl⟩:=hx.agg;simp only at hres;have ag:=hEnd x us rfl;obtain ⟨t5,Y,rfl⟩:=ag.cons;simp only [zz,List.tail_cons] at hres;have ap:=D.out.size;have aq:=G.size;have an:=W.size;have b4:=(G.block _ (by omega) (by omega)).trans HB.out.1
   have c4:=(G.block _ hP (by omega)).trans HB.out.2
   have aa:∀ob,(w4.alloc ob).heap[w.heap.size+1]?=some (.cells #[.int .i64 6,.string ⟨#[]⟩,.slice none 0 0,.slice none 0 0,.slice none 0 0,.int .i64 0] 108 (0,0)):=fun ob=>(Below.heap_alloc _ _ _ (by omega)).trans c4
   obtain ⟨-,-,g2,-,-,-,gf⟩:=zJ c4;have au:=zj g2;have av:w4.frozen? ⟨w.heap.size+1,2,none⟩=false:=gf 2;have ao:∀ob,(w4.alloc ob).frozen? ⟨w.heap.size+1,2,none⟩=false:=fun ob=>(zJ (aa ob)).2.2.2.2.2.2 2
   have am:w.heap.size+1<w4.heap.size:=by omega
   obtain ⟨w5,Z⟩:∃w5,w5=(w4.setCell ⟨w.heap.size+1,2,none⟩ (.slice (some ⟨w4.heap.size,0,none⟩) 1 1)).alloc (.cells #[.int .i64 xa,.string xb,.int .i64 xc,.slice x0 x1 x2,.int .i64 xl] 45):=⟨_,rfl⟩;have z:w5=(w4.alloc (.cells #[.int .i64 xa,.string xb,.int .i64 xc,.slice x0 x1 x2,.int .i64 xl] 45)).setCell ⟨w.heap.size+1,2,none⟩ (.slice (some ⟨w4.heap.size,0,none⟩) 1 1):=by rw [Z,World.setCell_alloc_past _ _ _ _ am]
   have y:∀k,k≠w.heap.size+1→w5.heap[k]?=(w4.alloc (.cells #[.int .i64 xa,.string xb,.int .i64 xc,.slice x0 x1 x2,.int .i64 xl] 45)).heap[k]?:=fun k hk=>by rw [z];exact Below.heap_setCell _ _ _ _ (by simpa using hk)
   have c5:w5.heap[w.heap.size+1]?=some (.cells #[.int .i64 6,.string ⟨#[]⟩,.slice (some ⟨w4.heap.size,0,none⟩) 1 1,.slice none 0 0,.slice none 0 0,.int .i64 0] 108 (0,0)):=by rw [z];exact zn _ (aa _)
   have b5:=(y w.heap.size (by omega)).trans ((Below.heap_alloc _ _ _ (by omega)).trans b4)
   have k5:zd r w w5:=by rw [z];exact ((D.out.trans G).alloc _).setOther (by simp) _
   have Q:zf r g o4 O (t5::Y) w5:=(ae.alloc (.cells #[.int .i64 xa,.string xb,.int .i64 xc,.slice x0 x1 x2,.int .i64 xl] 45)).keep (y r (by omega)) (y g (by omega))
   have I:=zI.one (S:=fun k=>w3.heap.size≤k) 45 (c:=[.int .i64 xa,.string xb,.int .i64 xc,.slice x0 x1 x2,.int .i64 xl]) hx rfl (by omega)
   have J:zI (fun k=>w3.heap.size≤k) w5 [x] (.slice (some ⟨w4.heap.size,0,none⟩) 1 1):=I.kept (by rw [z];simp) fun k hk _=>y k (by omega)
   have aj:=Z.symm;have ce:=yB r g o4 O t5 Y [59] w5 Q (fun hi=>(ag.tail (zi hi)).ne)
   have ab:Hid (zd r w w5):=k5;have T:Hid (zI (fun k=>w3.heap.size≤k) w5 [x] (.slice (some ⟨w4.heap.size,0,none⟩) 1 1)):=J
   have V:Hid (w5.heap[w.heap.size]?=some xf∧w5.heap[w.heap.size+1]?=some (.cells #[.int .i64 6,.string ⟨#[]⟩,.slice (some ⟨w4.heap.size,0,none⟩) 1 1,.slice none 0 0,.slice none 0 0,.int .i64 0] 108 (0,0))):=⟨b5,c5⟩;have al:w.heap.size+1<w5.heap.size:=(Array.getElem?_eq_some_iff.1 c5).1;clear Z z y b4 c4 aa c5 b5 k5 Q ae gf W G HB D ai hx I J
   by_cases hm:zo t5 [59]=true
   ·simp only [if_pos hm] at ce
    rw [if_pos hm] at hres;subst hres;go_wp2_with fail
    refine ce.mono ?_;clear ce aj;rintro e w6 ⟨s,rfl,h6⟩;have U:=(s.block _ (by omega) (by omega)).trans V.out.1
    have c6:=(s.block _ al (by omega)).trans V.out.2
    obtain ⟨e0,e1,e2,e3,e4,e5,-⟩:=zJ c6;obtain ⟨q0,q1,q2,q3,q4,q5,qf⟩:=zJ U;obtain ⟨z0,z1,z2,z3,z4,z5,-⟩:=zJ (Zq U (.int .i64 6) (.string ⟨#[]⟩) (.slice (some ⟨w4.heap.size,0,none⟩) 1 1) (.slice none 0 0) (.slice none 0 0) (.int .i64 0));have K:zI (fun k=>w3.heap.size≤k) w6 [x] (.slice (some ⟨w4.heap.size,0,none⟩) 1 1):=T.out.kept s.size fun k hk hlt=>s.block k hlt (by omega)
    have HP:Hid (ZG r g w (.ok (.mk 6 [] [x] [] [] 0,Y)) (.returned (.agg #[.int .i64 6,.string ⟨#[]⟩,.slice (some ⟨w4.heap.size,0,none⟩) 1 1,.slice none 0 0,.slice none 0 0,.int .i64 0])) (Xf w6 w.heap.size (.int .i64 6) (.string ⟨#[]⟩) (.slice (some ⟨w4.heap.size,0,none⟩) 1 1) (.slice none 0 0) (.slice none 0 0) (.int .i64 0))) :=
     ZG.of_set6 (B:=w3.heap.size) 6 [] 0 (ab.out.trans s) (Nat.le_refl _) hr ah K (z6.nil _ _) (z6.nil _ _) (by omega) h6
    clear U c6 K s h6 V T ab;go_wp2
    exact bodyPost_ret (v:=.agg #[.int .i64 6,.string ⟨#[]⟩,.slice (some ⟨w4.heap.size,0,none⟩) 1 1,.slice none 0 0,.slice none 0 0,.int .i64 0]) (by simp [results,Tryz.results168,go_sem,z0,z1,z2,z3,z4,z5]) rfl HP.out
   ·simp only [if_neg hm] at ce
    rw [if_neg hm] at hres;subst hres;go_wp2_with fail
    refine ce.mono ?_;clear ce;rintro e w6 ⟨s,rfl⟩;exact ⟨rfl,ab.out.trans s,rfl⟩
end Go.Proofs.YtpejpbbdgblbeaaGreatDoor
