import Derived.Test.YtdgpapchkpnijaaGreatDoorMC23
import Derived.Test.YtdgpapchkpnijaaGreatDoorMC19
import Derived.Test.YtdgpapchkpnijaaGreatDoorMC15
namespace Go.Proofs.YtdgpapchkpnijaaGreatDoor
open Go.RowKit Go.Shelf
set_option maxHeartbeats 16000000
set_option maxRecDepth 100000
structure Rc where
 name:List UInt8
 fields:List Pm
 line:Nat
def xy (line:Nat) (t t1:Tk) (res:PR (List Pm)):PR Rc :=
 if t.k=1 then
  if zo t1 [123]=true then
   match res with
   | .error a=>.error a
   | .ok (l,us)=>if zo (zz us) [125]=true then .ok (⟨t.s,l,line⟩,us.tail) else .error (zz us).at0
  else .error t1.at0
 else .error t.at0
abbrev rcZ:Obj:=.cells #[.string ⟨#[]⟩,.slice none 0 0,.int .i64 0] 77
def XC (r g:Nat) (w:World) (res:PR Rc) (e:Ending) (w':World):Prop :=
 zb r w w'∧match res with
  | .error a=>e=ZF a
  | .ok (x,ts)=>∃v o cap,e=.returned (.agg #[.string (za x.name),v,.int .i64 x.line])∧Z1 w.heap.size w' x.fields v∧zg r g o cap ts w'
theorem qk {w:World} {N:Nat} {x0 x1 x2:Value} {ty:TypeId} (h:w.heap[N]?=some (.cells #[x0,x1,x2] ty (0,0))) :
  w.cell? ⟨N,0,none⟩=some x0∧w.cell? ⟨N,1,none⟩=some x1∧w.cell? ⟨N,2,none⟩=some x2∧∀j,w.frozen? ⟨N,j,none⟩=false:=by
 refine ⟨?_,?_,?_,fun j=>?_⟩
 ·simp only [World.cell?,h];rfl
 ·simp only [World.cell?,h];rfl
 ·simp only [World.cell?,h];rfl
 ·simp only [World.frozen?,h];simp
theorem Z1.slice {B:Nat} {w:World} {l:List Pm} {v:Value} (h:Z1 B w l v):∃d0 d1 d2,v=.slice d0 d1 d2:=by
 rcases h with ⟨_,rfl⟩ | ⟨g,cap,us,h⟩
 ·exact ⟨_,_,_,rfl⟩
 ·exact ⟨_,_,_,h.val⟩
theorem Qr (r g o cap line:Nat) (t t1:Tk) (us1:List Tk) (w:World) (res:PR (List Pm)) (h:zg r g o cap (t::t1::us1) w) (hE:zk (t::t1::us1)) (hEnd:∀l us,res=.ok (l,us)→zk us)
  (hrow:t.k=1→zo t1 [123]=true→∀w1 o1 cap1,zg r g o1 cap1 us1 w1→zb r w w1→Calls Tryz.prog 103 #[.pointer (some ⟨r,0,none⟩),.func (.func 104) #[.pointer (some ⟨r,0,none⟩)] #[]] w1 (Qq r g w1 res)) :
  Calls Tryz.prog 59 #[.pointer (some ⟨r,0,none⟩),.int .i64 line] w (XC r g w (xy line t t1 res)):=by
 generalize hres:xy line t t1 res=R;have hmf:∀(fn:Fn) (first cap:Array Value) (w:World),(Instr.makeFunc fn first cap).run Tryz.prog w=.ok (.func fn first cap) w:=fun _ _ _ _=>rfl
 have hr:=h.lt.1;have hgw:=h.lt.2;obtain ⟨w0,hw0⟩:∃w0,w0=w.alloc rcZ:=⟨_,rfl⟩;have h0:zg r g o cap (t::t1::us1) w0:=by rw [hw0];exact h.alloc _
 have k0:zb r w w0:=by rw [hw0];exact (zb.refl r w).alloc _
 have b0:w0.heap[w.heap.size]?=some rcZ:=by rw [hw0];exact World.alloc_heap_new _ _
 have hs0:w0.heap.size=w.heap.size+1:=by rw [hw0];simp
 have cn:=xe r g o cap t (t1::us1) w0 h0 (fun _=>by simp)
 have HW0:Hid (w0=w.alloc rcZ):=hw0
 unfold xy at hres
 clear h h0 hw0
 by_cases hk:t.k=1
 ·simp only [if_pos hk] at cn
  rw [if_pos hk] at hres;have hE1:=hE.tail (by omega:t.k≠0)
  go_enter Tryz.func59,Tryz.ntmps59
  go_wp2_with fail
  rw [←HW0.out];refine cn.mono ?_;clear cn HW0;rintro e w1 ⟨hk1,rfl,h1⟩;obtain ⟨w2,hw2⟩:∃w2,w2=w1.alloc (.cells #[.string (za t.s),.slice none 0 0,.int .i64 line] 77):=⟨_,rfl⟩;have h2:zg r g (o+5) (cap-1) (t1::us1) w2:=by rw [hw2];exact h1.alloc _
  have hs1:=hk1.size;have b1:=(hk1.block _ (by omega) (by omega)).trans b0
  have b2:w2.heap[w.heap.size]?=some rcZ:=by rw [hw2];exact (Below.heap_alloc _ _ _ (by omega)).trans b1
  have bP:w2.heap[w1.heap.size]?=some (.cells #[.string (za t.s),.slice none 0 0,.int .i64 line] 77 (0,0)):=by rw [hw2];exact World.alloc_heap_new _ _
  have hP:w1.heap.size<w2.heap.size:=(Array.getElem?_eq_some_iff.1 bP).1;have HK2:Hid (zb r w w2):=show zb _ _ _ by rw [hw2];exact (k0.trans hk1).alloc _
  have cd:=yF r g (o+5) (cap-1) t1 us1 [123] w2 h2 (fun hi=>(hE1.tail (zi hi)).ne)
  have HW2:Hid (w2=w1.alloc (.cells #[.string (za t.s),.slice none 0 0,.int .i64 line] 77)):=hw2;have HB:Hid (w2.heap[w.heap.size]?=some rcZ∧w2.heap[w1.heap.size]?=some (.cells #[.string (za t.s),.slice none 0 0,.int .i64 line] 77 (0,0))):=⟨b2,bP⟩;clear hw2 h1 hk1 b0 b1 b2 bP k0 h2
  by_cases hc:zo t1 [123]=true
  ·simp only [if_pos hc] at cd
   rw [if_pos hc] at hres;go_wp2_with fail
   rw [←HW2.out];refine cd.mono ?_;clear cd HW2;rintro e w3 ⟨hk3,rfl,h3⟩;have ct:=hrow hk hc w3 _ _ h3 (HK2.out.trans hk3);have HK3:Hid (zb r w2 w3):=hk3;have hs3:=hk3.size;clear hrow h3 hk3;go_wp2_with fail
   refine ct.mono ?_;clear ct;rintro e w4 ⟨hk4,hpost⟩;have k24:zb r w2 w4:=HK3.out.trans hk4;rcases res with a | ⟨l,us⟩
   ·simp only at hpost hres
    obtain rfl:=hpost;subst hres;exact ⟨rfl,HK2.out.trans k24,rfl⟩
   ·obtain ⟨v,g1,cap1,us4,o4,cap4,rfl,hrw,hrd⟩:=hpost
    simp only at hres;have hpar:Z1 w3.heap.size w4 l v:=.inr ⟨g1,cap1,us4,hrw⟩;obtain ⟨d0,d1,d2,rfl⟩:=hpar.slice;have hE4:=hEnd l us rfl;obtain ⟨t5,us5,rfl⟩:=hE4.cons;simp only [zC,List.tail_cons] at hres;have hs2:=HK2.out.size;have hs4:=k24.size;have b4:=(k24.block _ (by omega) (by omega)).trans HB.out.1
    have c4:=(k24.block _ hP (by omega)).trans HB.out.2
    obtain ⟨-,g1',-,gf⟩:=qk c4;have gf1:=gf 1;obtain ⟨w5,hw5⟩:∃w5,w5=w4.setCell ⟨w1.heap.size,1,none⟩ (.slice d0 d1 d2):=⟨_,rfl⟩;have hkeep:∀k,k≠w1.heap.size→w5.heap[k]?=w4.heap[k]?:=fun k hk=>by rw [hw5];exact Below.heap_setCell _ _ _ _ (by simpa using hk)
    have c5:w5.heap[w1.heap.size]?=some (.cells #[.string (za t.s),.slice d0 d1 d2,.int .i64 line] 77 (0,0)):=by rw [hw5];exact zp _ c4
    have b5:=(hkeep w.heap.size (by omega)).trans b4
    have hs5:w4.heap.size≤w5.heap.size:=by rw [hw5];simp
    have k5:zb r w w5:=by rw [hw5];exact (HK2.out.trans k24).setOther (by simp;omega) _
    have hrd5:zg r g o4 cap4 (t5::us5) w5:=hrd.keep (hkeep r (by omega)) (hkeep g (by omega))
    have hpar5:Z1 w3.heap.size w5 l (.slice d0 d1 d2):=hpar.kept hs5 fun k hB _=>hkeep k (by omega)
    have hw5':=hw5.symm;have ce:=yF r g o4 cap4 t5 us5 [125] w5 hrd5 (fun hi=>(hE4.tail (zi hi)).ne)
    have HK5:Hid (zb r w w5):=k5;have HPAR:Hid (Z1 w3.heap.size w5 l (.slice d0 d1 d2)):=hpar5;have HB5:Hid (w5.heap[w.heap.size]?=some rcZ∧w5.heap[w1.heap.size]?=some (.cells #[.string (za t.s),.slice d0 d1 d2,.int .i64 line] 77 (0,0))):=⟨b5,c5⟩;have hP5:w1.heap.size<w5.heap.size:=(Array.getElem?_eq_some_iff.1 c5).1;clear hw5 hkeep b4 c4 c5 b5 k5 hrd5 hrd gf hk4 k24 HB HK2 HK3 hpar hpar5 hrw
    by_cases hm:zo t5 [125]=true
    ·simp only [if_pos hm] at ce
     rw [if_pos hm] at hres;subst hres;go_wp2_with fail
     refine ce.mono ?_;clear ce hw5';rintro e w6 ⟨hk6,rfl,h6⟩;have b6:=(hk6.block _ (by omega) (by omega)).trans HB5.out.1
     have c6:=(hk6.block _ hP5 (by omega)).trans HB5.out.2
     obtain ⟨e0,e1,e2,-⟩:=qk c6;obtain ⟨q0,q1,q2,qf⟩:=qk b6;have b7:=zp (j:=2) (.int .i64 line) (zp (j:=1) (.slice d0 d1 d2) (zp (j:=0) (.string (za t.s)) b6));obtain ⟨z0,z1,z2,-⟩:=qk (x0:=.string (za t.s)) (x1:=.slice d0 d1 d2) (x2:=.int .i64 line) b7;have hpar6:Z1 w3.heap.size w6 l (.slice d0 d1 d2):=HPAR.out.kept hk6.size fun k hB hlt=>hk6.block k hlt (by omega)
     have k6:zb r w w6:=HK5.out.trans hk6
     have hpk:∀k,k≠w.heap.size→(((w6.setCell ⟨w.heap.size,0,none⟩ (.string (za t.s))).setCell ⟨w.heap.size,1,none⟩ (.slice d0 d1 d2)).setCell ⟨w.heap.size,2,none⟩ (.int .i64 line)).heap[k]?=w6.heap[k]?:=fun k hk=>by
      rw [Below.heap_setCell _ _ _ _ (by simpa using hk),Below.heap_setCell _ _ _ _ (by simpa using hk),Below.heap_setCell _ _ _ _ (by simpa using hk)]
     have HP:Hid (XC r g w (.ok (⟨t.s,l,line⟩,us5)) (.returned (.agg #[.string (za t.s),.slice d0 d1 d2,.int .i64 line])) (((w6.setCell ⟨w.heap.size,0,none⟩ (.string (za t.s))).setCell ⟨w.heap.size,1,none⟩ (.slice d0 d1 d2)).setCell ⟨w.heap.size,2,none⟩ (.int .i64 line))):=by
      refine ⟨((k6.setOther (p:=⟨w.heap.size,0,none⟩) (by simp) _).setOther (p:=⟨w.heap.size,1,none⟩) (by simp) _).setOther (p:=⟨w.heap.size,2,none⟩) (by simp) _,_,_,_,rfl,?_,h6.keep (hpk r (by omega)) (hpk g (by omega))⟩
      exact (hpar6.kept (by simp) fun k hB _=>hpk k (by omega)).mono (by omega)
     clear b6 c6 b7 hpar6 k6 hpk hk6 h6 HB5 HPAR HK5;go_wp2
     exact bodyPost_ret (v:=.agg #[.string (za t.s),.slice d0 d1 d2,.int .i64 line]) (by simp [results,Tryz.results59,go_sem,z0,z1,z2]) rfl HP.out
    ·simp only [if_neg hm] at ce
     rw [if_neg hm] at hres;subst hres;go_wp2_with fail
     refine ce.mono ?_;clear ce;rintro e w6 ⟨hk6,rfl⟩;exact ⟨rfl,HK5.out.trans hk6,rfl⟩
  ·simp only [if_neg hc] at cd
   rw [if_neg hc] at hres;subst hres;go_wp2_with fail
   rw [←HW2.out];refine cd.mono ?_;clear cd;rintro e w3 ⟨hk3,rfl⟩;exact ⟨rfl,HK2.out.trans hk3,rfl⟩
 ·simp only [if_neg hk] at cn
  rw [if_neg hk] at hres;subst hres
  go_enter Tryz.func59,Tryz.ntmps59
  go_wp2_with fail
  rw [←HW0.out];refine cn.mono ?_;clear cn;rintro e w1 ⟨hk1,rfl⟩;exact ⟨rfl,k0.trans hk1,rfl⟩
inductive St where
 | mk (k:Nat) (s:List UInt8) (es:List Ex) (body els:List St) (line:Nat)
def xz (S:Nat→Prop) (w:World) (l:List St) (v:Value) (g cap:Nat) (us:List (List Value)):Prop :=
 (l=[]∧v=.slice none 0 0)∨(v=.slice (some ⟨g,0,none⟩) l.length cap∧l≠[]∧us.length=l.length∧S g∧g<w.heap.size∧l.length≤cap∧cap≤maxLen∧(∀j u,us.flatten[j]?=some u→w.cell? ⟨g,j,none⟩=some u)∧∀c∈us,c.length=6)
theorem xz.kept {S:Nat→Prop} {w w':World} {l:List St} {v:Value} {g cap:Nat} {us:List (List Value)} (h:xz S w l v g cap us) (hs:w.heap.size≤w'.heap.size) (hb:∀k,S k→k<w.heap.size→w'.heap[k]?=w.heap[k]?):xz S w' l v g cap us:=by
 rcases h with h | ⟨h1,h2,h3,h4,h5,h6,h7,h8,h9⟩
 ·exact .inl h
 ·refine .inr ⟨h1,h2,h3,h4,Nat.lt_of_lt_of_le h5 hs,h6,h7,fun j u hj=>?_,h9⟩
  rw [World.cell?_of_block (hb g h4 h5)];exact h8 j u hj
theorem xz.wide {S S':Nat→Prop} {w:World} {l:List St} {v:Value} {g cap:Nat} {us:List (List Value)} (h:xz S w l v g cap us) (hS:∀k,S k→S' k):xz S' w l v g cap us:=by
 rcases h with h | ⟨h1,h2,h3,h4,h5,h6,h7,h8,h9⟩
 ·exact .inl h
 ·exact .inr ⟨h1,h2,h3,hS _ h4,h5,h6,h7,h8,h9⟩
theorem xz.low {S:Nat→Prop} {w:World} {l:List St} {v:Value} {g cap:Nat} {us:List (List Value)} (h:xz S w l v g cap us):xz (fun k=>S k∧k<w.heap.size) w l v g cap us:=by
 rcases h with h | ⟨h1,h2,h3,h4,h5,h6,h7,h8,h9⟩
 ·exact .inl h
 ·exact .inr ⟨h1,h2,h3,⟨h4,h5⟩,h5,h6,h7,h8,h9⟩
theorem zG.lower {S:Nat→Prop} {w:World} {l:List Ex} {v:Value} (h:zG S w l v):zG (fun k=>S k∧k<w.heap.size) w l v:=zG.low h
inductive yp (S:Nat→Prop) (w:World):St→Value→Prop where
 | mk (k:Nat) (s:List UInt8) (es:List Ex) (body els:List St) (line:Nat) (ve vb vl:Value) (gb cb gl cl:Nat) (ub ul:List (List Value)) (he:zG S w es ve)
   (hb:xz S w body vb gb cb ub) (hbk:∀(j:Nat) (x:St) (c:List Value),body[j]?=some x→ub[j]?=some c→yp S w x (.agg c.toArray))
   (hl:xz S w els vl gl cl ul) (hlk:∀(j:Nat) (x:St) (c:List Value),els[j]?=some x→ul[j]?=some c→yp S w x (.agg c.toArray)) :
   yp S w (.mk k s es body els line) (.agg #[.int .i64 k,.string (za s),ve,vb,vl,.int .i64 line])
theorem yp.kept {S:Nat→Prop} {w w':World} {x:St} {v:Value} (h:yp S w x v) (hs:w.heap.size≤w'.heap.size) (hb:∀k,S k→k<w.heap.size→w'.heap[k]?=w.heap[k]?):yp S w' x v:=by
 induction h with
 | mk k s es body els line ve vb vl gb cb gl cl ub ul he hbr hbk hl hlk ih1 ih2 =>
  exact .mk k s es body els line ve vb vl gb cb gl cl ub ul (he.kept hs hb) (hbr.kept hs hb) ih1 (hl.kept hs hb) ih2
theorem yp.wide {S S':Nat→Prop} {w:World} {x:St} {v:Value} (h:yp S w x v) (hS:∀k,S k→S' k):yp S' w x v:=by
 induction h with
 | mk k s es body els line ve vb vl gb cb gl cl ub ul he hbr hbk hl hlk ih1 ih2 =>
  exact .mk k s es body els line ve vb vl gb cb gl cl ub ul (he.wide hS) (hbr.wide hS) ih1 (hl.wide hS) ih2
theorem yp.low {S:Nat→Prop} {w:World} {x:St} {v:Value} (h:yp S w x v):yp (fun k=>S k∧k<w.heap.size) w x v:=by
 induction h with
 | mk k s es body els line ve vb vl gb cb gl cl ub ul he hbr hbk hl hlk ih1 ih2 =>
  exact .mk k s es body els line ve vb vl gb cb gl cl ub ul he.lower hbr.low ih1 hl.low ih2
def StE (S:Nat→Prop) (w:World) (x:St) (c:List Value):Prop:=yp S w x (.agg c.toArray)
theorem V2:Z8 StE:=⟨fun h hs hb=>yp.kept h hs hb,fun h hS=>yp.wide h hS,fun h=>yp.low h⟩
def zZ (S:Nat→Prop) (w:World) (l:List St) (v:Value):Prop :=
 ∃g cap us,xz S w l v g cap us∧∀(j:Nat) (x:St) (c:List Value),l[j]?=some x→us[j]?=some c→yp S w x (.agg c.toArray)
theorem zZ.nil (S:Nat→Prop) (w:World):zZ S w [] (.slice none 0 0):=⟨0,0,[],.inl ⟨rfl,rfl⟩,fun j x c h=>by simp at h⟩
theorem zZ.kept {S:Nat→Prop} {w w':World} {l:List St} {v:Value} (h:zZ S w l v) (hs:w.heap.size≤w'.heap.size) (hb:∀k,S k→k<w.heap.size→w'.heap[k]?=w.heap[k]?):zZ S w' l v:=by
 obtain ⟨g,cap,us,h1,h2⟩:=h;exact ⟨g,cap,us,h1.kept hs hb,fun j x c hx hc=>(h2 j x c hx hc).kept hs hb⟩
theorem zZ.wide {S S':Nat→Prop} {w:World} {l:List St} {v:Value} (h:zZ S w l v) (hS:∀k,S k→S' k):zZ S' w l v:=by
 obtain ⟨g,cap,us,h1,h2⟩:=h;exact ⟨g,cap,us,h1.wide hS,fun j x c hx hc=>(h2 j x c hx hc).wide hS⟩
theorem zZ.slice {S:Nat→Prop} {w:World} {l:List St} {v:Value} (h:zZ S w l v):∃d0 d1 d2,v=.slice d0 d1 d2:=by
 obtain ⟨g,cap,us,⟨_,rfl⟩ | ⟨rfl,_⟩,_⟩:=h
 ·exact ⟨_,_,_,rfl⟩
 ·exact ⟨_,_,_,rfl⟩
theorem yp.of {S:Nat→Prop} {w:World} {es:List Ex} {body els:List St} {ve vb vl:Value} (k:Nat) (s:List UInt8) (line:Nat) (he:zG S w es ve) (hb:zZ S w body vb) (hl:zZ S w els vl) :
  yp S w (.mk k s es body els line) (.agg #[.int .i64 k,.string (za s),ve,vb,vl,.int .i64 line]):=by
 obtain ⟨gb,cb,ub,h1,h2⟩:=hb;obtain ⟨gl,cl,ul,h3,h4⟩:=hl;exact .mk k s es body els line ve vb vl gb cb gl cl ub ul he h1 h2 h3 h4
theorem Zf.sts {ty B:Nat} {w:World} {l:List St} {v:Value} {g cap:Nat} {us:List (List Value)} (h:Zf StE 6 ty B w l v g cap us):zZ (fun k=>B≤k) w l v:=by
 have hb:=h.block;refine ⟨g,cap,us,.inr ⟨h.val,h.ne,h.len,hb.1,hb.2.1,hb.2.2.1,hb.2.2.2,fun j u hj=>?_,h.wid⟩,fun j x c hx hc=>yp.wide (h.kids j x c hx hc) fun k hk=>hk.1⟩
 have hx:=h.own.cells (g:=g) (by rw [h.val];rfl) j u hj
 by_cases h0:j=0
 ·subst h0;simpa [Addr.add] using hx
 ·simpa [Addr.add,h0] using hx
def ZE (r g:Nat) (w:World) (res:PR St) (e:Ending) (w':World):Prop :=
 zb r w w'∧match res with
  | .error a=>e=ZF a
  | .ok (x,ts)=>∃v o cap,e=.returned v∧yp (fun k=>w.heap.size≤k) w' x v∧zg r g o cap ts w'
def XD (r g:Nat) (w:World) (res:PR (List St)) (e:Ending) (w':World):Prop :=
 zb r w w'∧match res with
  | .error a=>e=ZF a
  | .ok (l,ts)=>∃v o cap,e=.returned v∧zZ (fun k=>w.heap.size≤k) w' l v∧zg r g o cap ts w'
def XE (e:Ex):Bool:=e.kind==4||e.kind==8||e.kind==9
mutual
def yd:Nat→List Tk→Option (PR St)
 | 0,_=>none
 | f+1,ts =>
  if zo (zz ts) [108,101,116]=true then zn (yB ts.tail) fun s us=>zn (zV [61] us) fun _ us=>zn (zh f 1 us) fun e us=>zn (zV [59] us) fun _ us=>some (.ok (.mk 1 s [e] [] [] (zz ts).line,us))
  else if zo (zz ts) [105,102]=true then zn (zh f 1 ts.tail) fun e us=>zn (Zb f us) fun b us=>if zo (zz us) [101,108,115,101]=true then zn (Zb f us.tail) fun c us=>some (.ok (.mk 4 [] [e] b c (zz ts).line,us)) else some (.ok (.mk 3 [] [e] b [] (zz ts).line,us))
  else if zo (zz ts) [119,104,105,108,101]=true then zn (zh f 1 ts.tail) fun e us=>zn (Zb f us) fun b us=>some (.ok (.mk 5 [] [e] b [] (zz ts).line,us))
  else if zo (zz ts) [114,101,116,117,114,110]=true then if zo (zz ts.tail) [59]=true then some (.ok (.mk 6 [] [] [] [] (zz ts).line,ts.tail.tail)) else zn (zh f 1 ts.tail) fun e us=>zn (zV [59] us) fun _ us=>some (.ok (.mk 6 [] [e] [] [] (zz ts).line,us))
  else zn (zh f 1 ts) fun e us=>if zo (zz us) [61]=true then (if XE e=true then zn (zh f 1 us.tail) fun e2 us=>zn (zV [59] us) fun _ us=>some (.ok (.mk 2 [] [e,e2] [] [] (zz ts).line,us)) else some (.error (zz us).at0)) else zn (zV [59] us) fun _ us=>some (.ok (.mk 7 [] [e] [] [] (zz ts).line,us))
def Zb:Nat→List Tk→Option (PR (List St))
 | 0,_=>none
 | f+1,ts=>zn (zV [123] ts) fun _ us=>yg f [] us
def yg:Nat→List St→List Tk→Option (PR (List St))
 | 0,_,_=>none
 | f+1,pre,ts=>if zo (zz ts) [125]=true then some (.ok (pre,ts.tail)) else zn (yd f ts) fun s us=>yg f (pre++[s]) us
end
theorem yL {α β:Type} {x:Option (PR α)} {k l:α→List Tk→Option (PR β)} {r:PR β} (h:zn x k=some r) (hk:∀a ts r,k a ts=some r→l a ts=some r):zn x l=some r:=zD h (fun _ h=>h) hk
theorem UK (f:Nat) :
  (∀ts r,yd f ts=some r→yd (f+1) ts=some r)∧(∀ts r,Zb f ts=some r→Zb (f+1) ts=some r)∧(∀pre ts r,yg f pre ts=some r→yg (f+1) pre ts=some r):=by
 induction f with
 | zero=>refine ⟨?_,?_,?_⟩ <;> intros <;> rename_i h <;> simp [yd,Zb,yg] at h
 | succ f ih =>
  obtain ⟨i1,i2,i3⟩:=ih;have b1:=(ur f).1;refine ⟨fun ts r h=>?_,fun ts r h=>?_,fun pre ts r h=>?_⟩
  ·rw [yd] at h ⊢
   split at h
   ·rename_i hc;rw [if_pos hc]
    exact yL h fun _ _ _ h=>yL h fun _ _ _ h=>zD h (b1 _ _) fun _ _ _ h=>h
   ·rename_i hc;rw [if_neg hc]
    split at h
    ·rename_i hc;rw [if_pos hc]
     refine zD h (b1 _ _) fun _ _ _ h=>zD h (i2 _) fun _ _ _ h=>?_
     split at h
     ·rename_i hc;rw [if_pos hc];exact zD h (i2 _) fun _ _ _ h=>h
     ·rename_i hc;rw [if_neg hc];exact h
    ·rename_i hc;rw [if_neg hc]
     split at h
     ·rename_i hc;rw [if_pos hc]
      exact zD h (b1 _ _) fun _ _ _ h=>zD h (i2 _) fun _ _ _ h=>h
     ·rename_i hc;rw [if_neg hc]
      split at h
      ·rename_i hc;rw [if_pos hc]
       split at h
       ·rename_i hc;rw [if_pos hc];exact h
       ·rename_i hc;rw [if_neg hc];exact zD h (b1 _ _) fun _ _ _ h=>h
      ·rename_i hc;rw [if_neg hc]
       refine zD h (b1 _ _) fun _ _ _ h=>?_
       split at h
       ·rename_i hc;rw [if_pos hc]
        split at h
        ·rename_i hc;rw [if_pos hc];exact zD h (b1 _ _) fun _ _ _ h=>h
        ·rename_i hc;rw [if_neg hc];exact h
       ·rename_i hc;rw [if_neg hc];exact h
  ·rw [Zb] at h ⊢
   exact yL h fun _ _ _ h=>i3 _ _ _ h
  ·rw [yg] at h ⊢
   split at h
   ·rename_i hc;rw [if_pos hc];exact h
   ·rename_i hc;rw [if_neg hc];exact zD h (i1 _) fun _ _ _ h=>i3 _ _ _ h
theorem Vs (f:Nat) :
  (∀ts x us,yd f ts=some (.ok (x,us))→zk ts→zk us)∧(∀ts x us,Zb f ts=some (.ok (x,us))→zk ts→zk us)∧(∀pre ts x us,yg f pre ts=some (.ok (x,us))→zk ts→zk us):=by
 induction f with
 | zero=>refine ⟨?_,?_,?_⟩ <;> intros <;> simp_all [yd,Zb,yg]
 | succ f ih =>
  obtain ⟨i1,i2,i3⟩:=ih;have b1:=(Zk f).1;refine ⟨fun ts x us h hE=>?_,fun ts x us h hE=>?_,fun pre ts x us h hE=>?_⟩
  ·rw [yd] at h
   split at h
   ·rename_i hc
    obtain ⟨_,_,h1,h⟩:=zd h;obtain ⟨_,_,h2,h⟩:=zd h;obtain ⟨_,_,h3,h⟩:=zd h;obtain ⟨_,_,h4,h⟩:=zd h;exact z8 h (Zj h4 (b1 _ _ _ _ h3 (Zj h2 (y8 h1 (zU hE hc)))))
   ·split at h
    ·rename_i hc
     obtain ⟨_,_,h1,h⟩:=zd h;obtain ⟨_,_,h2,h⟩:=zd h;have hE2:=i2 _ _ _ h2 (b1 _ _ _ _ h1 (zU hE hc))
     split at h
     ·rename_i hc
      obtain ⟨_,_,h3,h⟩:=zd h;exact z8 h (i2 _ _ _ h3 (zU hE2 hc))
     ·exact z8 h hE2
    ·split at h
     ·rename_i hc
      obtain ⟨_,_,h1,h⟩:=zd h;obtain ⟨_,_,h2,h⟩:=zd h;exact z8 h (i2 _ _ _ h2 (b1 _ _ _ _ h1 (zU hE hc)))
     ·split at h
      ·rename_i hc
       split at h
       ·rename_i hc2
        exact z8 h (zU (zU hE hc) hc2)
       ·obtain ⟨_,_,h1,h⟩:=zd h
        obtain ⟨_,_,h2,h⟩:=zd h;exact z8 h (Zj h2 (b1 _ _ _ _ h1 (zU hE hc)))
      ·obtain ⟨_,_,h1,h⟩:=zd h
       have hE1:=b1 _ _ _ _ h1 hE
       split at h
       ·rename_i hc
        split at h
        ·obtain ⟨_,_,h2,h⟩:=zd h
         obtain ⟨_,_,h3,h⟩:=zd h;exact z8 h (Zj h3 (b1 _ _ _ _ h2 (zU hE1 hc)))
        ·simp at h
       ·obtain ⟨_,_,h2,h⟩:=zd h
        exact z8 h (Zj h2 hE1)
  ·rw [Zb] at h
   obtain ⟨_,_,h1,h⟩:=zd h;exact i3 _ _ _ _ h (Zj h1 hE)
  ·rw [yg] at h
   split at h
   ·rename_i hc;exact z8 h (zU hE hc)
   ·obtain ⟨_,_,h1,h⟩:=zd h
    exact i3 _ _ _ _ h (i1 _ _ _ h1 hE)
abbrev xh:Obj:=.cells #[.int .i64 0,.string ⟨#[]⟩,.slice none 0 0,.slice none 0 0,.slice none 0 0,.int .i64 0] 112
abbrev Xm (w:World) (N:Nat) (a b c d e f:Value):World:=(set5 w N a b c d e).setCell ⟨N,5,none⟩ f
theorem zJ {w:World} {N:Nat} {x0 x1 x2 x3 x4 x5:Value} {ty:TypeId} (h:w.heap[N]?=some (.cells #[x0,x1,x2,x3,x4,x5] ty (0,0))) :
  w.cell? ⟨N,0,none⟩=some x0∧w.cell? ⟨N,1,none⟩=some x1∧w.cell? ⟨N,2,none⟩=some x2∧w.cell? ⟨N,3,none⟩=some x3∧w.cell? ⟨N,4,none⟩=some x4∧w.cell? ⟨N,5,none⟩=some x5∧∀j,w.frozen? ⟨N,j,none⟩=false:=by
 refine ⟨?_,?_,?_,?_,?_,?_,fun j=>?_⟩
 ·simp only [World.cell?,h];rfl
 ·simp only [World.cell?,h];rfl
 ·simp only [World.cell?,h];rfl
 ·simp only [World.cell?,h];rfl
 ·simp only [World.cell?,h];rfl
 ·simp only [World.cell?,h];rfl
 ·simp only [World.frozen?,h];simp
theorem Zr {w:World} {N:Nat} {x0 x1 x2 x3 x4 x5:Value} {ty:TypeId} (h:w.heap[N]?=some (.cells #[x0,x1,x2,x3,x4,x5] ty (0,0))) (a b c d e f:Value):(Xm w N a b c d e f).heap[N]?=some (.cells #[a,b,c,d,e,f] ty (0,0)) :=
 zp f (zp e (zp d (zp c (zp b (zp a h)))))
theorem Ye (w:World) (N:Nat) (a b c d e f:Value) {k:Nat} (hk:k≠N):(Xm w N a b c d e f).heap[k]?=w.heap[k]?:=by
 rw [Below.heap_setCell _ _ _ _ (by simpa using hk)];exact zr w N a b c d e hk
theorem Y2 {r:Nat} {w0 w:World} {N:Nat} (h:zb r w0 w) (hN:w0.heap.size≤N) (a b c d e f:Value):zb r w0 (Xm w N a b c d e f) :=
 (ZM h hN a b c d e).setOther (p:=⟨N,5,none⟩) hN f
theorem ZE.of_set6 {r g o cap N B:Nat} {w w5:World} {us:List Tk} {es:List Ex} {body els:List St} {ve vb vl:Value} (k:Nat) (s:List UInt8) (line:Nat) (hK:zb r w w5) (hN:w.heap.size≤N) (hr:r<w.heap.size) (hg:g<w.heap.size)
  (he:zG (fun j=>B≤j) w5 es ve) (hb:zZ (fun j=>B≤j) w5 body vb) (hl:zZ (fun j=>B≤j) w5 els vl) (hB:N<B) (hrd:zg r g o cap us w5) :
  ZE r g w (.ok (.mk k s es body els line,us)) (.returned (.agg #[.int .i64 k,.string (za s),ve,vb,vl,.int .i64 line])) (Xm w5 N (.int .i64 k) (.string (za s)) ve vb vl (.int .i64 line)):=by
 refine ⟨Y2 hK hN _ _ _ _ _ _,_,o,cap,rfl,?_,hrd.keep (Ye _ _ _ _ _ _ _ _ (by omega)) (Ye _ _ _ _ _ _ _ _ (by omega))⟩
 have hs:w5.heap.size≤(Xm w5 N (.int .i64 k) (.string (za s)) ve vb vl (.int .i64 line)).heap.size:=by simp
 have hkp:∀j,B≤j→j<w5.heap.size→(Xm w5 N (.int .i64 k) (.string (za s)) ve vb vl (.int .i64 line)).heap[j]?=w5.heap[j]?:=fun j hj _=>Ye _ _ _ _ _ _ _ _ (by omega)
 exact yp.wide (yp.of k s line (he.kept hs hkp) (hb.kept hs hkp) (hl.kept hs hkp)) fun j hj=>by omega
def qm (t t1:Tk) (res:PR Ex):PR St :=
 if t.k=1 then
  if zo t1 [61]=true then
   match res with
   | .error a=>.error a
   | .ok (e,us)=>if zo (zz us) [59]=true then .ok (.mk 1 t.s [e] [] [] 0,us.tail) else .error (zz us).at0
  else .error t1.at0
 else .error t.at0
theorem zeq (r g o cap:Nat) (t t1:Tk) (us1:List Tk) (w:World) (res:PR Ex) (h:zg r g o cap (t::t1::us1) w) (hE:zk (t::t1::us1)) (hEnd:∀l us,res=.ok (l,us)→zk us)
  (hex:t.k=1→zo t1 [61]=true→∀w1 o1 cap1,zg r g o1 cap1 us1 w1→zb r w w1→Calls Tryz.prog 36 #[.pointer (some ⟨r,0,none⟩)] w1 (zI r g w1 res)) :
  Calls Tryz.prog 172 #[.pointer (some ⟨r,0,none⟩)] w (ZE r g w (qm t t1 res)):=by
 generalize hres:qm t t1 res=R;have hr:=h.lt.1;have hgw:=h.lt.2;obtain ⟨w0,hw0⟩:∃w0,w0=w.alloc xh:=⟨_,rfl⟩;have h0:zg r g o cap (t::t1::us1) w0:=by rw [hw0];exact h.alloc _
 have k0:zb r w w0:=by rw [hw0];exact (zb.refl r w).alloc _
 have b0:w0.heap[w.heap.size]?=some xh:=by rw [hw0];exact World.alloc_heap_new _ _
 have hs0:w0.heap.size=w.heap.size+1:=by rw [hw0];simp
 have cn:=xe r g o cap t (t1::us1) w0 h0 (fun _=>by simp)
 have HW0:Hid (w0=w.alloc xh):=hw0
 unfold qm at hres
 clear h h0 hw0
 by_cases hk:t.k=1
 ·simp only [if_pos hk] at cn
  rw [if_pos hk] at hres;have hE1:=hE.tail (by omega:t.k≠0)
  go_enter Tryz.func172,Tryz.ntmps172
  go_wp2_with fail
  rw [←HW0.out];refine cn.mono ?_;clear cn HW0;rintro e w1 ⟨hk1,rfl,h1⟩;obtain ⟨w2,hw2⟩:∃w2,w2=w1.alloc (.cells #[.int .i64 1,.string (za t.s),.slice none 0 0,.slice none 0 0,.slice none 0 0,.int .i64 0] 112):=⟨_,rfl⟩;have h2:zg r g (o+5) (cap-1) (t1::us1) w2:=by rw [hw2];exact h1.alloc _
  have hs1:=hk1.size;have b1:=(hk1.block _ (by omega) (by omega)).trans b0
  have b2:w2.heap[w.heap.size]?=some xh:=by rw [hw2];exact (Below.heap_alloc _ _ _ (by omega)).trans b1
  have bP:w2.heap[w1.heap.size]?=some (.cells #[.int .i64 1,.string (za t.s),.slice none 0 0,.slice none 0 0,.slice none 0 0,.int .i64 0] 112 (0,0)):=by rw [hw2];exact World.alloc_heap_new _ _
  have hP:w1.heap.size<w2.heap.size:=(Array.getElem?_eq_some_iff.1 bP).1;have HK2:Hid (zb r w w2):=show zb _ _ _ by rw [hw2];exact (k0.trans hk1).alloc _
  have cd:=yF r g (o+5) (cap-1) t1 us1 [61] w2 h2 (fun hi=>(hE1.tail (zi hi)).ne)
  have HW2:Hid (w2=w1.alloc (.cells #[.int .i64 1,.string (za t.s),.slice none 0 0,.slice none 0 0,.slice none 0 0,.int .i64 0] 112)):=hw2;have HB:Hid (w2.heap[w.heap.size]?=some xh∧w2.heap[w1.heap.size]?=some (.cells #[.int .i64 1,.string (za t.s),.slice none 0 0,.slice none 0 0,.slice none 0 0,.int .i64 0] 112 (0,0))):=⟨b2,bP⟩;clear hw2 h1 hk1 b0 b1 b2 bP k0 h2
  by_cases hc:zo t1 [61]=true
  ·simp only [if_pos hc] at cd
   rw [if_pos hc] at hres;go_wp2_with fail
   rw [←HW2.out];refine cd.mono ?_;clear cd HW2;rintro e w3 ⟨hk3,rfl,h3⟩;have ct:=hex hk hc w3 _ _ h3 (HK2.out.trans hk3);have HK3:Hid (zb r w2 w3):=hk3;have hs3:=hk3.size;clear hex h3 hk3;go_wp2_with fail
   refine ct.mono ?_;clear ct;rintro e w4 ⟨hk4,hpost⟩;have k24:zb r w2 w4:=HK3.out.trans hk4;rcases res with a | ⟨x,us⟩
   ·simp only at hpost hres
    obtain rfl:=hpost;subst hres;exact ⟨rfl,HK2.out.trans k24,rfl⟩
   ·obtain ⟨v,o4,cap4,rfl,hx,hrd⟩:=hpost
    obtain ⟨xa,xb,xc,x0,x1,x2,xl,rfl⟩:=hx.agg;simp only at hres;have hE4:=hEnd x us rfl;obtain ⟨t5,us5,rfl⟩:=hE4.cons;simp only [zC,List.tail_cons] at hres;have hs2:=HK2.out.size;have hs4:=k24.size;have hs34:=hk4.size;have b4:=(k24.block _ (by omega) (by omega)).trans HB.out.1
    have c4:=(k24.block _ hP (by omega)).trans HB.out.2
    have c4':∀ob,(w4.alloc ob).heap[w1.heap.size]?=some (.cells #[.int .i64 1,.string (za t.s),.slice none 0 0,.slice none 0 0,.slice none 0 0,.int .i64 0] 112 (0,0)):=fun ob=>(Below.heap_alloc _ _ _ (by omega)).trans c4
    obtain ⟨-,-,g2,-,-,-,gf⟩:=zJ c4;have g2':=zj g2;have gf2:w4.frozen? ⟨w1.heap.size,2,none⟩=false:=gf 2;have gf2':∀ob,(w4.alloc ob).frozen? ⟨w1.heap.size,2,none⟩=false:=fun ob=>(zJ (c4' ob)).2.2.2.2.2.2 2
    have hPl:w1.heap.size<w4.heap.size:=by omega
    obtain ⟨w5,hw5⟩:∃w5,w5=(w4.setCell ⟨w1.heap.size,2,none⟩ (.slice (some ⟨w4.heap.size,0,none⟩) 1 1)).alloc (.cells #[.int .i64 xa,.string xb,.int .i64 xc,.slice x0 x1 x2,.int .i64 xl] 40):=⟨_,rfl⟩;have hw5b:w5=(w4.alloc (.cells #[.int .i64 xa,.string xb,.int .i64 xc,.slice x0 x1 x2,.int .i64 xl] 40)).setCell ⟨w1.heap.size,2,none⟩ (.slice (some ⟨w4.heap.size,0,none⟩) 1 1):=by rw [hw5,World.setCell_alloc_past _ _ _ _ hPl]
    have hkeep:∀k,k≠w1.heap.size→w5.heap[k]?=(w4.alloc (.cells #[.int .i64 xa,.string xb,.int .i64 xc,.slice x0 x1 x2,.int .i64 xl] 40)).heap[k]?:=fun k hk=>by rw [hw5b];exact Below.heap_setCell _ _ _ _ (by simpa using hk)
    have c5:w5.heap[w1.heap.size]?=some (.cells #[.int .i64 1,.string (za t.s),.slice (some ⟨w4.heap.size,0,none⟩) 1 1,.slice none 0 0,.slice none 0 0,.int .i64 0] 112 (0,0)):=by rw [hw5b];exact zp _ (c4' _)
    have b5:=(hkeep w.heap.size (by omega)).trans ((Below.heap_alloc _ _ _ (by omega)).trans b4)
    have k5:zb r w w5:=by rw [hw5b];exact ((HK2.out.trans k24).alloc _).setOther (by simp;omega) _
    have hrd5:zg r g o4 cap4 (t5::us5) w5:=(hrd.alloc (.cells #[.int .i64 xa,.string xb,.int .i64 xc,.slice x0 x1 x2,.int .i64 xl] 40)).keep (hkeep r (by omega)) (hkeep g (by omega))
    have hrow0:=zG.one (S:=fun k=>w3.heap.size≤k) 40 (c:=[.int .i64 xa,.string xb,.int .i64 xc,.slice x0 x1 x2,.int .i64 xl]) hx rfl (by omega)
    have hrow5:zG (fun k=>w3.heap.size≤k) w5 [x] (.slice (some ⟨w4.heap.size,0,none⟩) 1 1):=hrow0.kept (by rw [hw5b];simp) fun k hk _=>hkeep k (by omega)
    have hw5':=hw5.symm;have ce:=yF r g o4 cap4 t5 us5 [59] w5 hrd5 (fun hi=>(hE4.tail (zi hi)).ne)
    have HK5:Hid (zb r w w5):=k5;have HROW:Hid (zG (fun k=>w3.heap.size≤k) w5 [x] (.slice (some ⟨w4.heap.size,0,none⟩) 1 1)):=hrow5
    have HB5:Hid (w5.heap[w.heap.size]?=some xh∧w5.heap[w1.heap.size]?=some (.cells #[.int .i64 1,.string (za t.s),.slice (some ⟨w4.heap.size,0,none⟩) 1 1,.slice none 0 0,.slice none 0 0,.int .i64 0] 112 (0,0))):=⟨b5,c5⟩;have hP5:w1.heap.size<w5.heap.size:=(Array.getElem?_eq_some_iff.1 c5).1;clear hw5 hw5b hkeep b4 c4 c4' c5 b5 k5 hrd5 hrd gf hk4 k24 HB HK2 HK3 hx hrow0 hrow5
    by_cases hm:zo t5 [59]=true
    ·simp only [if_pos hm] at ce
     rw [if_pos hm] at hres;subst hres;go_wp2_with fail
     refine ce.mono ?_;clear ce hw5';rintro e w6 ⟨hk6,rfl,h6⟩;have b6:=(hk6.block _ (by omega) (by omega)).trans HB5.out.1
     have c6:=(hk6.block _ hP5 (by omega)).trans HB5.out.2
     obtain ⟨e0,e1,e2,e3,e4,e5,-⟩:=zJ c6;obtain ⟨q0,q1,q2,q3,q4,q5,qf⟩:=zJ b6;obtain ⟨z0,z1,z2,z3,z4,z5,-⟩:=zJ (Zr b6 (.int .i64 1) (.string (za t.s)) (.slice (some ⟨w4.heap.size,0,none⟩) 1 1) (.slice none 0 0) (.slice none 0 0) (.int .i64 0));have hrow6:zG (fun k=>w3.heap.size≤k) w6 [x] (.slice (some ⟨w4.heap.size,0,none⟩) 1 1):=HROW.out.kept hk6.size fun k hk hlt=>hk6.block k hlt (by omega)
     have HP:Hid (ZE r g w (.ok (.mk 1 t.s [x] [] [] 0,us5)) (.returned (.agg #[.int .i64 1,.string (za t.s),.slice (some ⟨w4.heap.size,0,none⟩) 1 1,.slice none 0 0,.slice none 0 0,.int .i64 0])) (Xm w6 w.heap.size (.int .i64 1) (.string (za t.s)) (.slice (some ⟨w4.heap.size,0,none⟩) 1 1) (.slice none 0 0) (.slice none 0 0) (.int .i64 0))) :=
      ZE.of_set6 (B:=w3.heap.size) 1 t.s 0 (HK5.out.trans hk6) (Nat.le_refl _) hr hgw hrow6 (zZ.nil _ _) (zZ.nil _ _) (by omega) h6
     clear b6 c6 hrow6 hk6 h6 HB5 HROW HK5;go_wp2
     exact bodyPost_ret (v:=.agg #[.int .i64 1,.string (za t.s),.slice (some ⟨w4.heap.size,0,none⟩) 1 1,.slice none 0 0,.slice none 0 0,.int .i64 0]) (by simp [results,Tryz.results172,go_sem,z0,z1,z2,z3,z4,z5]) rfl HP.out
    ·simp only [if_neg hm] at ce
     rw [if_neg hm] at hres;subst hres;go_wp2_with fail
     refine ce.mono ?_;clear ce;rintro e w6 ⟨hk6,rfl⟩;exact ⟨rfl,HK5.out.trans hk6,rfl⟩
  ·simp only [if_neg hc] at cd
   rw [if_neg hc] at hres;subst hres;go_wp2_with fail
   rw [←HW2.out];refine cd.mono ?_;clear cd;rintro e w3 ⟨hk3,rfl⟩;exact ⟨rfl,HK2.out.trans hk3,rfl⟩
 ·simp only [if_neg hk] at cn
  rw [if_neg hk] at hres;subst hres
  go_enter Tryz.func172,Tryz.ntmps172
  go_wp2_with fail
  rw [←HW0.out];refine cn.mono ?_;clear cn;rintro e w1 ⟨hk1,rfl⟩;exact ⟨rfl,k0.trans hk1,rfl⟩
def YX (t:Tk) (ts:List Tk) (res:PR Ex):PR St :=
 if zo t [59]=true then .ok (.mk 6 [] [] [] [] 0,ts) else
 match res with
 | .error a=>.error a
 | .ok (e,us)=>if zo (zz us) [59]=true then .ok (.mk 6 [] [e] [] [] 0,us.tail) else .error (zz us).at0
theorem Qs (r g o cap:Nat) (t:Tk) (ts:List Tk) (w:World) (res:PR Ex) (h:zg r g o cap (t::ts) w) (hE:zk (t::ts)) (hEnd:∀l us,res=.ok (l,us)→zk us)
  (hex:zo t [59]=false→∀w1 o1 cap1,zg r g o1 cap1 (t::ts) w1→zb r w w1→Calls Tryz.prog 36 #[.pointer (some ⟨r,0,none⟩)] w1 (zI r g w1 res)) :
  Calls Tryz.prog 174 #[.pointer (some ⟨r,0,none⟩)] w (ZE r g w (YX t ts res)):=by
 generalize hres:YX t ts res=R;have hr:=h.lt.1;have hgw:=h.lt.2;obtain ⟨w2,hw2⟩:∃w2,w2=(w.alloc xh).alloc (.cells #[.int .i64 6,.string ⟨#[]⟩,.slice none 0 0,.slice none 0 0,.slice none 0 0,.int .i64 0] 112):=⟨_,rfl⟩;have h2:zg r g o cap (t::ts) w2:=by rw [hw2];exact (h.alloc _).alloc _
 have k2:zb r w w2:=by rw [hw2];exact ((zb.refl r w).alloc _).alloc _
 have b2:w2.heap[w.heap.size]?=some xh:=by rw [hw2,Below.heap_alloc _ _ _ (by simp)];exact World.alloc_heap_new _ _
 have bP:w2.heap[w.heap.size+1]?=some (.cells #[.int .i64 6,.string ⟨#[]⟩,.slice none 0 0,.slice none 0 0,.slice none 0 0,.int .i64 0] 112 (0,0)):=by
  rw [hw2]
  have:=World.alloc_heap_new (w.alloc xh) (.cells #[.int .i64 6,.string ⟨#[]⟩,.slice none 0 0,.slice none 0 0,.slice none 0 0,.int .i64 0] 112)
  simpa using this
 have hP:w.heap.size+1<w2.heap.size:=(Array.getElem?_eq_some_iff.1 bP).1;have HK2:Hid (zb r w w2):=k2;have HW2:Hid (w2=(w.alloc xh).alloc (.cells #[.int .i64 6,.string ⟨#[]⟩,.slice none 0 0,.slice none 0 0,.slice none 0 0,.int .i64 0] 112)):=hw2;have HB:Hid (w2.heap[w.heap.size]?=some xh∧w2.heap[w.heap.size+1]?=some (.cells #[.int .i64 6,.string ⟨#[]⟩,.slice none 0 0,.slice none 0 0,.slice none 0 0,.int .i64 0] 112 (0,0))):=⟨b2,bP⟩;have cs:=Zu r g o cap t ts [59] w2 h2 (fun hi=>(hE.tail (zi hi)).ne)
 unfold YX at hres
 clear h hw2 h2 k2 b2 bP
 by_cases hi:zo t [59]=true
 ·rw [hi] at cs
  rw [if_pos hi] at hres;subst hres;clear hex hEnd
  go_enter Tryz.func174,Tryz.ntmps174
  go_wp2_with fail
  rw [←HW2.out];refine cs.mono ?_;clear cs HW2;rintro e w6 ⟨rfl,hk6,hr6⟩;have h6:zg r g (o+5) (cap-1) ts w6:=by simpa using hr6
  have b6:=(hk6.block _ (by omega) (by omega)).trans HB.out.1
  have c6:=(hk6.block _ hP (by omega)).trans HB.out.2
  obtain ⟨e0,e1,e2,e3,e4,e5,-⟩:=zJ c6;obtain ⟨q0,q1,q2,q3,q4,q5,qf⟩:=zJ b6;obtain ⟨z0,z1,z2,z3,z4,z5,-⟩:=zJ (Zr b6 (.int .i64 6) (.string ⟨#[]⟩) (.slice none 0 0) (.slice none 0 0) (.slice none 0 0) (.int .i64 0))
  have HP:Hid (ZE r g w (.ok (.mk 6 [] [] [] [] 0,ts)) (.returned (.agg #[.int .i64 6,.string ⟨#[]⟩,.slice none 0 0,.slice none 0 0,.slice none 0 0,.int .i64 0])) (Xm w6 w.heap.size (.int .i64 6) (.string ⟨#[]⟩) (.slice none 0 0) (.slice none 0 0) (.slice none 0 0) (.int .i64 0))) :=
   ZE.of_set6 (B:=w.heap.size+1) 6 [] 0 (HK2.out.trans hk6) (Nat.le_refl _) hr hgw (.inl ⟨rfl,rfl⟩) (zZ.nil _ _) (zZ.nil _ _) (Nat.lt_succ_self _) h6
  clear b6 c6 hk6 h6 hr6 HB HK2;go_wp2
  exact bodyPost_ret (v:=.agg #[.int .i64 6,.string ⟨#[]⟩,.slice none 0 0,.slice none 0 0,.slice none 0 0,.int .i64 0]) (by simp [results,Tryz.results174,go_sem,z0,z1,z2,z3,z4,z5]) rfl HP.out
 ·have hi':zo t [59]=false:=by simpa using hi
  rw [hi'] at cs;rw [if_neg hi] at hres
  go_enter Tryz.func174,Tryz.ntmps174
  go_wp2_with fail
  rw [←HW2.out];refine cs.mono ?_;clear cs HW2;rintro e w3 ⟨rfl,hk3,hr3⟩;have h3:zg r g o cap (t::ts) w3:=by simpa using hr3
  have ct:=hex hi' w3 _ _ h3 (HK2.out.trans hk3);have HK3:Hid (zb r w2 w3):=hk3;have hs3:=hk3.size;clear hex h3 hr3 hk3;go_wp2_with fail
  refine ct.mono ?_;clear ct;rintro e w4 ⟨hk4,hpost⟩;have k24:zb r w2 w4:=HK3.out.trans hk4;rcases res with a | ⟨x,us⟩
  ·simp only at hpost hres
   obtain rfl:=hpost;subst hres;exact ⟨rfl,HK2.out.trans k24,rfl⟩
  ·obtain ⟨v,o4,cap4,rfl,hx,hrd⟩:=hpost
   obtain ⟨xa,xb,xc,x0,x1,x2,xl,rfl⟩:=hx.agg;simp only at hres;have hE4:=hEnd x us rfl;obtain ⟨t5,us5,rfl⟩:=hE4.cons;simp only [zC,List.tail_cons] at hres;have hs2:=HK2.out.size;have hs4:=k24.size;have hs34:=hk4.size;have b4:=(k24.block _ (by omega) (by omega)).trans HB.out.1
   have c4:=(k24.block _ hP (by omega)).trans HB.out.2
   have c4':∀ob,(w4.alloc ob).heap[w.heap.size+1]?=some (.cells #[.int .i64 6,.string ⟨#[]⟩,.slice none 0 0,.slice none 0 0,.slice none 0 0,.int .i64 0] 112 (0,0)):=fun ob=>(Below.heap_alloc _ _ _ (by omega)).trans c4
   obtain ⟨-,-,g2,-,-,-,gf⟩:=zJ c4;have g2':=zj g2;have gf2:w4.frozen? ⟨w.heap.size+1,2,none⟩=false:=gf 2;have gf2':∀ob,(w4.alloc ob).frozen? ⟨w.heap.size+1,2,none⟩=false:=fun ob=>(zJ (c4' ob)).2.2.2.2.2.2 2
   have hPl:w.heap.size+1<w4.heap.size:=by omega
   obtain ⟨w5,hw5⟩:∃w5,w5=(w4.setCell ⟨w.heap.size+1,2,none⟩ (.slice (some ⟨w4.heap.size,0,none⟩) 1 1)).alloc (.cells #[.int .i64 xa,.string xb,.int .i64 xc,.slice x0 x1 x2,.int .i64 xl] 40):=⟨_,rfl⟩;have hw5b:w5=(w4.alloc (.cells #[.int .i64 xa,.string xb,.int .i64 xc,.slice x0 x1 x2,.int .i64 xl] 40)).setCell ⟨w.heap.size+1,2,none⟩ (.slice (some ⟨w4.heap.size,0,none⟩) 1 1):=by rw [hw5,World.setCell_alloc_past _ _ _ _ hPl]
   have hkeep:∀k,k≠w.heap.size+1→w5.heap[k]?=(w4.alloc (.cells #[.int .i64 xa,.string xb,.int .i64 xc,.slice x0 x1 x2,.int .i64 xl] 40)).heap[k]?:=fun k hk=>by rw [hw5b];exact Below.heap_setCell _ _ _ _ (by simpa using hk)
   have c5:w5.heap[w.heap.size+1]?=some (.cells #[.int .i64 6,.string ⟨#[]⟩,.slice (some ⟨w4.heap.size,0,none⟩) 1 1,.slice none 0 0,.slice none 0 0,.int .i64 0] 112 (0,0)):=by rw [hw5b];exact zp _ (c4' _)
   have b5:=(hkeep w.heap.size (by omega)).trans ((Below.heap_alloc _ _ _ (by omega)).trans b4)
   have k5:zb r w w5:=by rw [hw5b];exact ((HK2.out.trans k24).alloc _).setOther (by simp) _
   have hrd5:zg r g o4 cap4 (t5::us5) w5:=(hrd.alloc (.cells #[.int .i64 xa,.string xb,.int .i64 xc,.slice x0 x1 x2,.int .i64 xl] 40)).keep (hkeep r (by omega)) (hkeep g (by omega))
   have hrow0:=zG.one (S:=fun k=>w3.heap.size≤k) 40 (c:=[.int .i64 xa,.string xb,.int .i64 xc,.slice x0 x1 x2,.int .i64 xl]) hx rfl (by omega)
   have hrow5:zG (fun k=>w3.heap.size≤k) w5 [x] (.slice (some ⟨w4.heap.size,0,none⟩) 1 1):=hrow0.kept (by rw [hw5b];simp) fun k hk _=>hkeep k (by omega)
   have hw5':=hw5.symm;have ce:=yF r g o4 cap4 t5 us5 [59] w5 hrd5 (fun hi=>(hE4.tail (zi hi)).ne)
   have HK5:Hid (zb r w w5):=k5;have HROW:Hid (zG (fun k=>w3.heap.size≤k) w5 [x] (.slice (some ⟨w4.heap.size,0,none⟩) 1 1)):=hrow5
   have HB5:Hid (w5.heap[w.heap.size]?=some xh∧w5.heap[w.heap.size+1]?=some (.cells #[.int .i64 6,.string ⟨#[]⟩,.slice (some ⟨w4.heap.size,0,none⟩) 1 1,.slice none 0 0,.slice none 0 0,.int .i64 0] 112 (0,0))):=⟨b5,c5⟩;have hP5:w.heap.size+1<w5.heap.size:=(Array.getElem?_eq_some_iff.1 c5).1;clear hw5 hw5b hkeep b4 c4 c4' c5 b5 k5 hrd5 hrd gf hk4 k24 HB HK2 HK3 hx hrow0 hrow5
   by_cases hm:zo t5 [59]=true
   ·simp only [if_pos hm] at ce
    rw [if_pos hm] at hres;subst hres;go_wp2_with fail
    refine ce.mono ?_;clear ce hw5';rintro e w6 ⟨hk6,rfl,h6⟩;have b6:=(hk6.block _ (by omega) (by omega)).trans HB5.out.1
    have c6:=(hk6.block _ hP5 (by omega)).trans HB5.out.2
    obtain ⟨e0,e1,e2,e3,e4,e5,-⟩:=zJ c6;obtain ⟨q0,q1,q2,q3,q4,q5,qf⟩:=zJ b6;obtain ⟨z0,z1,z2,z3,z4,z5,-⟩:=zJ (Zr b6 (.int .i64 6) (.string ⟨#[]⟩) (.slice (some ⟨w4.heap.size,0,none⟩) 1 1) (.slice none 0 0) (.slice none 0 0) (.int .i64 0));have hrow6:zG (fun k=>w3.heap.size≤k) w6 [x] (.slice (some ⟨w4.heap.size,0,none⟩) 1 1):=HROW.out.kept hk6.size fun k hk hlt=>hk6.block k hlt (by omega)
    have HP:Hid (ZE r g w (.ok (.mk 6 [] [x] [] [] 0,us5)) (.returned (.agg #[.int .i64 6,.string ⟨#[]⟩,.slice (some ⟨w4.heap.size,0,none⟩) 1 1,.slice none 0 0,.slice none 0 0,.int .i64 0])) (Xm w6 w.heap.size (.int .i64 6) (.string ⟨#[]⟩) (.slice (some ⟨w4.heap.size,0,none⟩) 1 1) (.slice none 0 0) (.slice none 0 0) (.int .i64 0))) :=
     ZE.of_set6 (B:=w3.heap.size) 6 [] 0 (HK5.out.trans hk6) (Nat.le_refl _) hr hgw hrow6 (zZ.nil _ _) (zZ.nil _ _) (by omega) h6
    clear b6 c6 hrow6 hk6 h6 HB5 HROW HK5;go_wp2
    exact bodyPost_ret (v:=.agg #[.int .i64 6,.string ⟨#[]⟩,.slice (some ⟨w4.heap.size,0,none⟩) 1 1,.slice none 0 0,.slice none 0 0,.int .i64 0]) (by simp [results,Tryz.results174,go_sem,z0,z1,z2,z3,z4,z5]) rfl HP.out
   ·simp only [if_neg hm] at ce
    rw [if_neg hm] at hres;subst hres;go_wp2_with fail
    refine ce.mono ?_;clear ce;rintro e w6 ⟨hk6,rfl⟩;exact ⟨rfl,HK5.out.trans hk6,rfl⟩
end Go.Proofs.YtdgpapchkpnijaaGreatDoor
