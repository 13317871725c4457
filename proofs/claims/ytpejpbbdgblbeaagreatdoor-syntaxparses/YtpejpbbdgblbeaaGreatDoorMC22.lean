import Derived.Test.YtpejpbbdgblbeaaGreatDoorMC21
import Derived.Test.YtpejpbbdgblbeaaGreatDoorMC18
import Derived.Test.YtpejpbbdgblbeaaGreatDoorMC14
namespace Go.Proofs.YtpejpbbdgblbeaaGreatDoor
open Go.RowKit Go.Shelf
set_option maxHeartbeats 16000000
set_option maxRecDepth 100000
structure Rc where
 name:List UInt8
 fields:List Pm
 line:Nat
def XA (line:Nat) (t t1:Tk) (res:PR (List Pm)):PR Rc :=
 if t.k=1 then
  if zn t1 [123]=true then
   match res with
   | .error a=>.error a
   | .ok (l,us)=>if zn (zx us) [125]=true then .ok (⟨t.s,l,line⟩,us.tail) else .error (zx us).at0
  else .error t1.at0
 else .error t.at0
abbrev rcZ:Obj:=.cells #[.string ⟨#[]⟩,.slice none 0 0,.int .i64 0] 74
def vU (r g:Nat) (w:World) (res:PR Rc) (e:Ending) (w':World):Prop :=
 zc r w w'∧match res with
  | .error a=>e=Z2 a
  | .ok (x,ts)=>∃v o cap,e=.returned (.agg #[.string (za x.name),v,.int .i64 x.line])∧ye w.heap.size w' x.fields v∧zh r g o cap ts w'
theorem zav {w:World} {N:Nat} {x0 x1 x2:Value} {ty:TypeId} (h:w.heap[N]?=some (.cells #[x0,x1,x2] ty (0,0))) :
  w.cell? ⟨N,0,none⟩=some x0∧w.cell? ⟨N,1,none⟩=some x1∧w.cell? ⟨N,2,none⟩=some x2∧∀j,w.frozen? ⟨N,j,none⟩=false:=by
 refine ⟨?_,?_,?_,fun j=>?_⟩
 ·simp only [World.cell?,h];rfl
 ·simp only [World.cell?,h];rfl
 ·simp only [World.cell?,h];rfl
 ·simp only [World.frozen?,h];simp
theorem ye.slice {B:Nat} {w:World} {l:List Pm} {v:Value} (h:ye B w l v):∃d0 d1 d2,v=.slice d0 d1 d2:=by
 rcases h with ⟨_,rfl⟩ | ⟨g,cap,us,h⟩
 ·exact ⟨_,_,_,rfl⟩
 ·exact ⟨_,_,_,h.val⟩
theorem zbr (r g o cap line:Nat) (t t1:Tk) (us1:List Tk) (w:World) (res:PR (List Pm)) (h:zh r g o cap (t::t1::us1) w) (hE:zj (t::t1::us1)) (hEnd:∀l us,res=.ok (l,us)→zj us)
  (hrow:t.k=1→zn t1 [123]=true→∀w1 o1 cap1,zh r g o1 cap1 us1 w1→zc r w w1→Calls Tryz.prog 96 #[.pointer (some ⟨r,0,none⟩),.func (.func 97) #[.pointer (some ⟨r,0,none⟩)] #[]] w1 (zbq r g w1 res)) :
  Calls Tryz.prog 53 #[.pointer (some ⟨r,0,none⟩),.int .i64 line] w (vU r g w (XA line t t1 res)):=by
 generalize hres:XA line t t1 res=R;have hmf:∀(fn:Fn) (first cap:Array Value) (w:World),(Instr.makeFunc fn first cap).run Tryz.prog w=.ok (.func fn first cap) w:=fun _ _ _ _=>rfl
 have hr:=h.lt.1;have hgw:=h.lt.2;obtain ⟨w0,hw0⟩:∃w0,w0=w.alloc rcZ:=⟨_,rfl⟩;have h0:zh r g o cap (t::t1::us1) w0:=by rw [hw0];exact h.alloc _
 have k0:zc r w w0:=by rw [hw0];exact (zc.refl r w).alloc _
 have b0:w0.heap[w.heap.size]?=some rcZ:=by rw [hw0];exact World.alloc_heap_new _ _
 have hs0:w0.heap.size=w.heap.size+1:=by rw [hw0];simp
 have cn:=Xl r g o cap t (t1::us1) w0 h0 (fun _=>by simp)
 have HW0:Hid (w0=w.alloc rcZ):=hw0
 unfold XA at hres
 clear h h0 hw0
 by_cases hk:t.k=1
 ·simp only [if_pos hk] at cn
  rw [if_pos hk] at hres;have hE1:=hE.tail (by omega:t.k≠0)
  go_enter Tryz.func53,Tryz.ntmps53
  go_wp2_with fail
  rw [←HW0.out];refine cn.mono ?_;clear cn HW0;rintro e w1 ⟨hk1,rfl,h1⟩;obtain ⟨w2,hw2⟩:∃w2,w2=w1.alloc (.cells #[.string (za t.s),.slice none 0 0,.int .i64 line] 74):=⟨_,rfl⟩;have h2:zh r g (o+5) (cap-1) (t1::us1) w2:=by rw [hw2];exact h1.alloc _
  have hs1:=hk1.size;have b1:=(hk1.block _ (by omega) (by omega)).trans b0
  have b2:w2.heap[w.heap.size]?=some rcZ:=by rw [hw2];exact (Below.heap_alloc _ _ _ (by omega)).trans b1
  have bP:w2.heap[w1.heap.size]?=some (.cells #[.string (za t.s),.slice none 0 0,.int .i64 line] 74 (0,0)):=by rw [hw2];exact World.alloc_heap_new _ _
  have hP:w1.heap.size<w2.heap.size:=(Array.getElem?_eq_some_iff.1 bP).1;have HK2:Hid (zc r w w2):=show zc _ _ _ by rw [hw2];exact (k0.trans hk1).alloc _
  have cd:=Yt r g (o+5) (cap-1) t1 us1 [123] w2 h2 (fun hi=>(hE1.tail (zl hi)).ne)
  have HW2:Hid (w2=w1.alloc (.cells #[.string (za t.s),.slice none 0 0,.int .i64 line] 74)):=hw2;have HB:Hid (w2.heap[w.heap.size]?=some rcZ∧w2.heap[w1.heap.size]?=some (.cells #[.string (za t.s),.slice none 0 0,.int .i64 line] 74 (0,0))):=⟨b2,bP⟩;clear hw2 h1 hk1 b0 b1 b2 bP k0 h2
  by_cases hc:zn t1 [123]=true
  ·simp only [if_pos hc] at cd
   rw [if_pos hc] at hres;go_wp2_with fail
   rw [←HW2.out];refine cd.mono ?_;clear cd HW2;rintro e w3 ⟨hk3,rfl,h3⟩;have ct:=hrow hk hc w3 _ _ h3 (HK2.out.trans hk3);have HK3:Hid (zc r w2 w3):=hk3;have hs3:=hk3.size;clear hrow h3 hk3;go_wp2_with fail
   refine ct.mono ?_;clear ct;rintro e w4 ⟨hk4,hpost⟩;have k24:zc r w2 w4:=HK3.out.trans hk4;rcases res with a | ⟨l,us⟩
   ·simp only at hpost hres
    obtain rfl:=hpost;subst hres;exact ⟨rfl,HK2.out.trans k24,rfl⟩
   ·obtain ⟨v,g1,cap1,us4,o4,cap4,rfl,hrw,hrd⟩:=hpost
    simp only at hres;have hpar:ye w3.heap.size w4 l v:=.inr ⟨g1,cap1,us4,hrw⟩;obtain ⟨d0,d1,d2,rfl⟩:=hpar.slice;have hE4:=hEnd l us rfl;obtain ⟨t5,us5,rfl⟩:=hE4.cons;simp only [zI,List.tail_cons] at hres;have hs2:=HK2.out.size;have hs4:=k24.size;have b4:=(k24.block _ (by omega) (by omega)).trans HB.out.1
    have c4:=(k24.block _ hP (by omega)).trans HB.out.2
    obtain ⟨-,g1',-,gf⟩:=zav c4;have gf1:=gf 1;obtain ⟨w5,hw5⟩:∃w5,w5=w4.setCell ⟨w1.heap.size,1,none⟩ (.slice d0 d1 d2):=⟨_,rfl⟩;have hkeep:∀k,k≠w1.heap.size→w5.heap[k]?=w4.heap[k]?:=fun k hk=>by rw [hw5];exact Below.heap_setCell _ _ _ _ (by simpa using hk)
    have c5:w5.heap[w1.heap.size]?=some (.cells #[.string (za t.s),.slice d0 d1 d2,.int .i64 line] 74 (0,0)):=by rw [hw5];exact zm _ c4
    have b5:=(hkeep w.heap.size (by omega)).trans b4
    have hs5:w4.heap.size≤w5.heap.size:=by rw [hw5];simp
    have k5:zc r w w5:=by rw [hw5];exact (HK2.out.trans k24).setOther (by simp;omega) _
    have hrd5:zh r g o4 cap4 (t5::us5) w5:=hrd.keep (hkeep r (by omega)) (hkeep g (by omega))
    have hpar5:ye w3.heap.size w5 l (.slice d0 d1 d2):=hpar.kept hs5 fun k hB _=>hkeep k (by omega)
    have hw5':=hw5.symm;have ce:=Yt r g o4 cap4 t5 us5 [125] w5 hrd5 (fun hi=>(hE4.tail (zl hi)).ne)
    have HK5:Hid (zc r w w5):=k5;have HPAR:Hid (ye w3.heap.size w5 l (.slice d0 d1 d2)):=hpar5;have HB5:Hid (w5.heap[w.heap.size]?=some rcZ∧w5.heap[w1.heap.size]?=some (.cells #[.string (za t.s),.slice d0 d1 d2,.int .i64 line] 74 (0,0))):=⟨b5,c5⟩;have hP5:w1.heap.size<w5.heap.size:=(Array.getElem?_eq_some_iff.1 c5).1;clear hw5 hkeep b4 c4 c5 b5 k5 hrd5 hrd gf hk4 k24 HB HK2 HK3 hpar hpar5 hrw
    by_cases hm:zn t5 [125]=true
    ·simp only [if_pos hm] at ce
     rw [if_pos hm] at hres;subst hres;go_wp2_with fail
     refine ce.mono ?_;clear ce hw5';rintro e w6 ⟨hk6,rfl,h6⟩;have b6:=(hk6.block _ (by omega) (by omega)).trans HB5.out.1
     have c6:=(hk6.block _ hP5 (by omega)).trans HB5.out.2
     obtain ⟨e0,e1,e2,-⟩:=zav c6;obtain ⟨q0,q1,q2,qf⟩:=zav b6;have b7:=zm (j:=2) (.int .i64 line) (zm (j:=1) (.slice d0 d1 d2) (zm (j:=0) (.string (za t.s)) b6));obtain ⟨z0,z1,z2,-⟩:=zav (x0:=.string (za t.s)) (x1:=.slice d0 d1 d2) (x2:=.int .i64 line) b7;have hpar6:ye w3.heap.size w6 l (.slice d0 d1 d2):=HPAR.out.kept hk6.size fun k hB hlt=>hk6.block k hlt (by omega)
     have k6:zc r w w6:=HK5.out.trans hk6
     have hpk:∀k,k≠w.heap.size→(((w6.setCell ⟨w.heap.size,0,none⟩ (.string (za t.s))).setCell ⟨w.heap.size,1,none⟩ (.slice d0 d1 d2)).setCell ⟨w.heap.size,2,none⟩ (.int .i64 line)).heap[k]?=w6.heap[k]?:=fun k hk=>by
      rw [Below.heap_setCell _ _ _ _ (by simpa using hk),Below.heap_setCell _ _ _ _ (by simpa using hk),Below.heap_setCell _ _ _ _ (by simpa using hk)]
     have HP:Hid (vU r g w (.ok (⟨t.s,l,line⟩,us5)) (.returned (.agg #[.string (za t.s),.slice d0 d1 d2,.int .i64 line])) (((w6.setCell ⟨w.heap.size,0,none⟩ (.string (za t.s))).setCell ⟨w.heap.size,1,none⟩ (.slice d0 d1 d2)).setCell ⟨w.heap.size,2,none⟩ (.int .i64 line))):=by
      refine ⟨((k6.setOther (p:=⟨w.heap.size,0,none⟩) (by simp) _).setOther (p:=⟨w.heap.size,1,none⟩) (by simp) _).setOther (p:=⟨w.heap.size,2,none⟩) (by simp) _,_,_,_,rfl,?_,h6.keep (hpk r (by omega)) (hpk g (by omega))⟩
      exact (hpar6.kept (by simp) fun k hB _=>hpk k (by omega)).mono (by omega)
     clear b6 c6 b7 hpar6 k6 hpk hk6 h6 HB5 HPAR HK5;go_wp2
     exact bodyPost_ret (v:=.agg #[.string (za t.s),.slice d0 d1 d2,.int .i64 line]) (by simp [results,Tryz.results53,go_sem,z0,z1,z2]) rfl HP.out
    ·simp only [if_neg hm] at ce
     rw [if_neg hm] at hres;subst hres;go_wp2_with fail
     refine ce.mono ?_;clear ce;rintro e w6 ⟨hk6,rfl⟩;exact ⟨rfl,HK5.out.trans hk6,rfl⟩
  ·simp only [if_neg hc] at cd
   rw [if_neg hc] at hres;subst hres;go_wp2_with fail
   rw [←HW2.out];refine cd.mono ?_;clear cd;rintro e w3 ⟨hk3,rfl⟩;exact ⟨rfl,HK2.out.trans hk3,rfl⟩
 ·simp only [if_neg hk] at cn
  rw [if_neg hk] at hres;subst hres
  go_enter Tryz.func53,Tryz.ntmps53
  go_wp2_with fail
  rw [←HW0.out];refine cn.mono ?_;clear cn;rintro e w1 ⟨hk1,rfl⟩;exact ⟨rfl,k0.trans hk1,rfl⟩
inductive St where
 | mk (k:Nat) (s:List UInt8) (es:List Ex) (body els:List St) (line:Nat)
def XB (S:Nat→Prop) (w:World) (l:List St) (v:Value) (g cap:Nat) (us:List (List Value)):Prop :=
 (l=[]∧v=.slice none 0 0)∨(v=.slice (some ⟨g,0,none⟩) l.length cap∧l≠[]∧us.length=l.length∧S g∧g<w.heap.size∧l.length≤cap∧cap≤maxLen∧(∀j u,us.flatten[j]?=some u→w.cell? ⟨g,j,none⟩=some u)∧∀c∈us,c.length=6)
theorem XB.kept {S:Nat→Prop} {w w':World} {l:List St} {v:Value} {g cap:Nat} {us:List (List Value)} (h:XB S w l v g cap us) (hs:w.heap.size≤w'.heap.size) (hb:∀k,S k→k<w.heap.size→w'.heap[k]?=w.heap[k]?):XB S w' l v g cap us:=by
 rcases h with h | ⟨h1,h2,h3,h4,h5,h6,h7,h8,h9⟩
 ·exact .inl h
 ·refine .inr ⟨h1,h2,h3,h4,Nat.lt_of_lt_of_le h5 hs,h6,h7,fun j u hj=>?_,h9⟩
  rw [World.cell?_of_block (hb g h4 h5)];exact h8 j u hj
theorem XB.wide {S S':Nat→Prop} {w:World} {l:List St} {v:Value} {g cap:Nat} {us:List (List Value)} (h:XB S w l v g cap us) (hS:∀k,S k→S' k):XB S' w l v g cap us:=by
 rcases h with h | ⟨h1,h2,h3,h4,h5,h6,h7,h8,h9⟩
 ·exact .inl h
 ·exact .inr ⟨h1,h2,h3,hS _ h4,h5,h6,h7,h8,h9⟩
theorem XB.low {S:Nat→Prop} {w:World} {l:List St} {v:Value} {g cap:Nat} {us:List (List Value)} (h:XB S w l v g cap us):XB (fun k=>S k∧k<w.heap.size) w l v g cap us:=by
 rcases h with h | ⟨h1,h2,h3,h4,h5,h6,h7,h8,h9⟩
 ·exact .inl h
 ·exact .inr ⟨h1,h2,h3,⟨h4,h5⟩,h5,h6,h7,h8,h9⟩
theorem zv.lower {S:Nat→Prop} {w:World} {l:List Ex} {v:Value} (h:zv S w l v):zv (fun k=>S k∧k<w.heap.size) w l v:=zv.low h
inductive yS (S:Nat→Prop) (w:World):St→Value→Prop where
 | mk (k:Nat) (s:List UInt8) (es:List Ex) (body els:List St) (line:Nat) (ve vb vl:Value) (gb cb gl cl:Nat) (ub ul:List (List Value)) (he:zv S w es ve)
   (hb:XB S w body vb gb cb ub) (hbk:∀(j:Nat) (x:St) (c:List Value),body[j]?=some x→ub[j]?=some c→yS S w x (.agg c.toArray))
   (hl:XB S w els vl gl cl ul) (hlk:∀(j:Nat) (x:St) (c:List Value),els[j]?=some x→ul[j]?=some c→yS S w x (.agg c.toArray)) :
   yS S w (.mk k s es body els line) (.agg #[.int .i64 k,.string (za s),ve,vb,vl,.int .i64 line])
theorem yS.kept {S:Nat→Prop} {w w':World} {x:St} {v:Value} (h:yS S w x v) (hs:w.heap.size≤w'.heap.size) (hb:∀k,S k→k<w.heap.size→w'.heap[k]?=w.heap[k]?):yS S w' x v:=by
 induction h with
 | mk k s es body els line ve vb vl gb cb gl cl ub ul he hbr hbk hl hlk ih1 ih2 =>
  exact .mk k s es body els line ve vb vl gb cb gl cl ub ul (he.kept hs hb) (hbr.kept hs hb) ih1 (hl.kept hs hb) ih2
theorem yS.wide {S S':Nat→Prop} {w:World} {x:St} {v:Value} (h:yS S w x v) (hS:∀k,S k→S' k):yS S' w x v:=by
 induction h with
 | mk k s es body els line ve vb vl gb cb gl cl ub ul he hbr hbk hl hlk ih1 ih2 =>
  exact .mk k s es body els line ve vb vl gb cb gl cl ub ul (he.wide hS) (hbr.wide hS) ih1 (hl.wide hS) ih2
theorem yS.low {S:Nat→Prop} {w:World} {x:St} {v:Value} (h:yS S w x v):yS (fun k=>S k∧k<w.heap.size) w x v:=by
 induction h with
 | mk k s es body els line ve vb vl gb cb gl cl ub ul he hbr hbk hl hlk ih1 ih2 =>
  exact .mk k s es body els line ve vb vl gb cb gl cl ub ul he.lower hbr.low ih1 hl.low ih2
def StE (S:Nat→Prop) (w:World) (x:St) (c:List Value):Prop:=yS S w x (.agg c.toArray)
theorem XC:yO StE:=⟨fun h hs hb=>yS.kept h hs hb,fun h hS=>yS.wide h hS,fun h=>yS.low h⟩
def zD (S:Nat→Prop) (w:World) (l:List St) (v:Value):Prop :=
 ∃g cap us,XB S w l v g cap us∧∀(j:Nat) (x:St) (c:List Value),l[j]?=some x→us[j]?=some c→yS S w x (.agg c.toArray)
theorem zD.nil (S:Nat→Prop) (w:World):zD S w [] (.slice none 0 0):=⟨0,0,[],.inl ⟨rfl,rfl⟩,fun j x c h=>by simp at h⟩
theorem zD.kept {S:Nat→Prop} {w w':World} {l:List St} {v:Value} (h:zD S w l v) (hs:w.heap.size≤w'.heap.size) (hb:∀k,S k→k<w.heap.size→w'.heap[k]?=w.heap[k]?):zD S w' l v:=by
 obtain ⟨g,cap,us,h1,h2⟩:=h;exact ⟨g,cap,us,h1.kept hs hb,fun j x c hx hc=>(h2 j x c hx hc).kept hs hb⟩
theorem zD.wide {S S':Nat→Prop} {w:World} {l:List St} {v:Value} (h:zD S w l v) (hS:∀k,S k→S' k):zD S' w l v:=by
 obtain ⟨g,cap,us,h1,h2⟩:=h;exact ⟨g,cap,us,h1.wide hS,fun j x c hx hc=>(h2 j x c hx hc).wide hS⟩
theorem zD.slice {S:Nat→Prop} {w:World} {l:List St} {v:Value} (h:zD S w l v):∃d0 d1 d2,v=.slice d0 d1 d2:=by
 obtain ⟨g,cap,us,⟨_,rfl⟩ | ⟨rfl,_⟩,_⟩:=h
 ·exact ⟨_,_,_,rfl⟩
 ·exact ⟨_,_,_,rfl⟩
theorem yS.of {S:Nat→Prop} {w:World} {es:List Ex} {body els:List St} {ve vb vl:Value} (k:Nat) (s:List UInt8) (line:Nat) (he:zv S w es ve) (hb:zD S w body vb) (hl:zD S w els vl) :
  yS S w (.mk k s es body els line) (.agg #[.int .i64 k,.string (za s),ve,vb,vl,.int .i64 line]):=by
 obtain ⟨gb,cb,ub,h1,h2⟩:=hb;obtain ⟨gl,cl,ul,h3,h4⟩:=hl;exact .mk k s es body els line ve vb vl gb cb gl cl ub ul he h1 h2 h3 h4
theorem Zu.sts {ty B:Nat} {w:World} {l:List St} {v:Value} {g cap:Nat} {us:List (List Value)} (h:Zu StE 6 ty B w l v g cap us):zD (fun k=>B≤k) w l v:=by
 have hb:=h.block;refine ⟨g,cap,us,.inr ⟨h.val,h.ne,h.len,hb.1,hb.2.1,hb.2.2.1,hb.2.2.2,fun j u hj=>?_,h.wid⟩,fun j x c hx hc=>yS.wide (h.kids j x c hx hc) fun k hk=>hk.1⟩
 have hx:=h.own.cells (g:=g) (by rw [h.val];rfl) j u hj
 by_cases h0:j=0
 ·subst h0;simpa [Addr.add] using hx
 ·simpa [Addr.add,h0] using hx
def Z0 (r g:Nat) (w:World) (res:PR St) (e:Ending) (w':World):Prop :=
 zc r w w'∧match res with
  | .error a=>e=Z2 a
  | .ok (x,ts)=>∃v o cap,e=.returned v∧yS (fun k=>w.heap.size≤k) w' x v∧zh r g o cap ts w'
def vV (r g:Nat) (w:World) (res:PR (List St)) (e:Ending) (w':World):Prop :=
 zc r w w'∧match res with
  | .error a=>e=Z2 a
  | .ok (l,ts)=>∃v o cap,e=.returned v∧zD (fun k=>w.heap.size≤k) w' l v∧zh r g o cap ts w'
def YQ (e:Ex):Bool:=e.kind==4||e.kind==8||e.kind==9
mutual
def ZQ:Nat→List Tk→Option (PR St)
 | 0,_=>none
 | f+1,ts =>
  if zn (zx ts) [108,101,116]=true then zq (Yg ts.tail) fun s us=>zq (Zf [61] us) fun _ us=>zq (zk f 1 us) fun e us=>zq (Zf [59] us) fun _ us=>some (.ok (.mk 1 s [e] [] [] (zx ts).line,us))
  else if zn (zx ts) [105,102]=true then zq (zk f 1 ts.tail) fun e us=>zq (zU f us) fun b us=>if zn (zx us) [101,108,115,101]=true then zq (zU f us.tail) fun c us=>some (.ok (.mk 4 [] [e] b c (zx ts).line,us)) else some (.ok (.mk 3 [] [e] b [] (zx ts).line,us))
  else if zn (zx ts) [119,104,105,108,101]=true then zq (zk f 1 ts.tail) fun e us=>zq (zU f us) fun b us=>some (.ok (.mk 5 [] [e] b [] (zx ts).line,us))
  else if zn (zx ts) [114,101,116,117,114,110]=true then if zn (zx ts.tail) [59]=true then some (.ok (.mk 6 [] [] [] [] (zx ts).line,ts.tail.tail)) else zq (zk f 1 ts.tail) fun e us=>zq (Zf [59] us) fun _ us=>some (.ok (.mk 6 [] [e] [] [] (zx ts).line,us))
  else zq (zk f 1 ts) fun e us=>if zn (zx us) [61]=true then (if YQ e=true then zq (zk f 1 us.tail) fun e2 us=>zq (Zf [59] us) fun _ us=>some (.ok (.mk 2 [] [e,e2] [] [] (zx ts).line,us)) else some (.error (zx us).at0)) else zq (Zf [59] us) fun _ us=>some (.ok (.mk 7 [] [e] [] [] (zx ts).line,us))
def zU:Nat→List Tk→Option (PR (List St))
 | 0,_=>none
 | f+1,ts=>zq (Zf [123] ts) fun _ us=>ZH f [] us
def ZH:Nat→List St→List Tk→Option (PR (List St))
 | 0,_,_=>none
 | f+1,pre,ts=>if zn (zx ts) [125]=true then some (.ok (pre,ts.tail)) else zq (ZQ f ts) fun s us=>ZH f (pre++[s]) us
end
theorem YF {α β:Type} {x:Option (PR α)} {k l:α→List Tk→Option (PR β)} {r:PR β} (h:zq x k=some r) (hk:∀a ts r,k a ts=some r→l a ts=some r):zq x l=some r:=zJ h (fun _ h=>h) hk
theorem QO (f:Nat) :
  (∀ts r,ZQ f ts=some r→ZQ (f+1) ts=some r)∧(∀ts r,zU f ts=some r→zU (f+1) ts=some r)∧(∀pre ts r,ZH f pre ts=some r→ZH (f+1) pre ts=some r):=by
 induction f with
 | zero=>refine ⟨?_,?_,?_⟩ <;> intros <;> rename_i h <;> simp [ZQ,zU,ZH] at h
 | succ f ih =>
  obtain ⟨i1,i2,i3⟩:=ih;have b1:=(U8 f).1;refine ⟨fun ts r h=>?_,fun ts r h=>?_,fun pre ts r h=>?_⟩
  ·rw [ZQ] at h ⊢
   split at h
   ·rename_i hc;rw [if_pos hc]
    exact YF h fun _ _ _ h=>YF h fun _ _ _ h=>zJ h (b1 _ _) fun _ _ _ h=>h
   ·rename_i hc;rw [if_neg hc]
    split at h
    ·rename_i hc;rw [if_pos hc]
     refine zJ h (b1 _ _) fun _ _ _ h=>zJ h (i2 _) fun _ _ _ h=>?_
     split at h
     ·rename_i hc;rw [if_pos hc];exact zJ h (i2 _) fun _ _ _ h=>h
     ·rename_i hc;rw [if_neg hc];exact h
    ·rename_i hc;rw [if_neg hc]
     split at h
     ·rename_i hc;rw [if_pos hc]
      exact zJ h (b1 _ _) fun _ _ _ h=>zJ h (i2 _) fun _ _ _ h=>h
     ·rename_i hc;rw [if_neg hc]
      split at h
      ·rename_i hc;rw [if_pos hc]
       split at h
       ·rename_i hc;rw [if_pos hc];exact h
       ·rename_i hc;rw [if_neg hc];exact zJ h (b1 _ _) fun _ _ _ h=>h
      ·rename_i hc;rw [if_neg hc]
       refine zJ h (b1 _ _) fun _ _ _ h=>?_
       split at h
       ·rename_i hc;rw [if_pos hc]
        split at h
        ·rename_i hc;rw [if_pos hc];exact zJ h (b1 _ _) fun _ _ _ h=>h
        ·rename_i hc;rw [if_neg hc];exact h
       ·rename_i hc;rw [if_neg hc];exact h
  ·rw [zU] at h ⊢
   exact YF h fun _ _ _ h=>i3 _ _ _ h
  ·rw [ZH] at h ⊢
   split at h
   ·rename_i hc;rw [if_pos hc];exact h
   ·rename_i hc;rw [if_neg hc];exact zJ h (i1 _) fun _ _ _ h=>i3 _ _ _ h
theorem uW (f:Nat) :
  (∀ts x us,ZQ f ts=some (.ok (x,us))→zj ts→zj us)∧(∀ts x us,zU f ts=some (.ok (x,us))→zj ts→zj us)∧(∀pre ts x us,ZH f pre ts=some (.ok (x,us))→zj ts→zj us):=by
 induction f with
 | zero=>refine ⟨?_,?_,?_⟩ <;> intros <;> simp_all [ZQ,zU,ZH]
 | succ f ih =>
  obtain ⟨i1,i2,i3⟩:=ih;have b1:=(ZF f).1;refine ⟨fun ts x us h hE=>?_,fun ts x us h hE=>?_,fun pre ts x us h hE=>?_⟩
  ·rw [ZQ] at h
   split at h
   ·rename_i hc
    obtain ⟨_,_,h1,h⟩:=zb h;obtain ⟨_,_,h2,h⟩:=zb h;obtain ⟨_,_,h3,h⟩:=zb h;obtain ⟨_,_,h4,h⟩:=zb h;exact Zp h (Zt h4 (b1 _ _ _ _ h3 (Zt h2 (yM h1 (zT hE hc)))))
   ·split at h
    ·rename_i hc
     obtain ⟨_,_,h1,h⟩:=zb h;obtain ⟨_,_,h2,h⟩:=zb h;have hE2:=i2 _ _ _ h2 (b1 _ _ _ _ h1 (zT hE hc))
     split at h
     ·rename_i hc
      obtain ⟨_,_,h3,h⟩:=zb h;exact Zp h (i2 _ _ _ h3 (zT hE2 hc))
     ·exact Zp h hE2
    ·split at h
     ·rename_i hc
      obtain ⟨_,_,h1,h⟩:=zb h;obtain ⟨_,_,h2,h⟩:=zb h;exact Zp h (i2 _ _ _ h2 (b1 _ _ _ _ h1 (zT hE hc)))
     ·split at h
      ·rename_i hc
       split at h
       ·rename_i hc2
        exact Zp h (zT (zT hE hc) hc2)
       ·obtain ⟨_,_,h1,h⟩:=zb h
        obtain ⟨_,_,h2,h⟩:=zb h;exact Zp h (Zt h2 (b1 _ _ _ _ h1 (zT hE hc)))
      ·obtain ⟨_,_,h1,h⟩:=zb h
       have hE1:=b1 _ _ _ _ h1 hE
       split at h
       ·rename_i hc
        split at h
        ·obtain ⟨_,_,h2,h⟩:=zb h
         obtain ⟨_,_,h3,h⟩:=zb h;exact Zp h (Zt h3 (b1 _ _ _ _ h2 (zT hE1 hc)))
        ·simp at h
       ·obtain ⟨_,_,h2,h⟩:=zb h
        exact Zp h (Zt h2 hE1)
  ·rw [zU] at h
   obtain ⟨_,_,h1,h⟩:=zb h;exact i3 _ _ _ _ h (Zt h1 hE)
  ·rw [ZH] at h
   split at h
   ·rename_i hc;exact Zp h (zT hE hc)
   ·obtain ⟨_,_,h1,h⟩:=zb h
    exact i3 _ _ _ _ h (i1 _ _ _ h1 hE)
abbrev YR:Obj:=.cells #[.int .i64 0,.string ⟨#[]⟩,.slice none 0 0,.slice none 0 0,.slice none 0 0,.int .i64 0] 108
abbrev Yu (w:World) (N:Nat) (a b c d e f:Value):World:=(set5 w N a b c d e).setCell ⟨N,5,none⟩ f
theorem zp {w:World} {N:Nat} {x0 x1 x2 x3 x4 x5:Value} {ty:TypeId} (h:w.heap[N]?=some (.cells #[x0,x1,x2,x3,x4,x5] ty (0,0))) :
  w.cell? ⟨N,0,none⟩=some x0∧w.cell? ⟨N,1,none⟩=some x1∧w.cell? ⟨N,2,none⟩=some x2∧w.cell? ⟨N,3,none⟩=some x3∧w.cell? ⟨N,4,none⟩=some x4∧w.cell? ⟨N,5,none⟩=some x5∧∀j,w.frozen? ⟨N,j,none⟩=false:=by
 refine ⟨?_,?_,?_,?_,?_,?_,fun j=>?_⟩
 ·simp only [World.cell?,h];rfl
 ·simp only [World.cell?,h];rfl
 ·simp only [World.cell?,h];rfl
 ·simp only [World.cell?,h];rfl
 ·simp only [World.cell?,h];rfl
 ·simp only [World.cell?,h];rfl
 ·simp only [World.frozen?,h];simp
theorem zP {w:World} {N:Nat} {x0 x1 x2 x3 x4 x5:Value} {ty:TypeId} (h:w.heap[N]?=some (.cells #[x0,x1,x2,x3,x4,x5] ty (0,0))) (a b c d e f:Value):(Yu w N a b c d e f).heap[N]?=some (.cells #[a,b,c,d,e,f] ty (0,0)) :=
 zm f (zm e (zm d (zm c (zm b (zm a h)))))
theorem Yc (w:World) (N:Nat) (a b c d e f:Value) {k:Nat} (hk:k≠N):(Yu w N a b c d e f).heap[k]?=w.heap[k]?:=by
 rw [Below.heap_setCell _ _ _ _ (by simpa using hk)];exact zw w N a b c d e hk
theorem xD {r:Nat} {w0 w:World} {N:Nat} (h:zc r w0 w) (hN:w0.heap.size≤N) (a b c d e f:Value):zc r w0 (Yu w N a b c d e f) :=
 (yq h hN a b c d e).setOther (p:=⟨N,5,none⟩) hN f
theorem Z0.of_set6 {r g o cap N B:Nat} {w w5:World} {us:List Tk} {es:List Ex} {body els:List St} {ve vb vl:Value} (k:Nat) (s:List UInt8) (line:Nat) (hK:zc r w w5) (hN:w.heap.size≤N) (hr:r<w.heap.size) (hg:g<w.heap.size)
  (he:zv (fun j=>B≤j) w5 es ve) (hb:zD (fun j=>B≤j) w5 body vb) (hl:zD (fun j=>B≤j) w5 els vl) (hB:N<B) (hrd:zh r g o cap us w5) :
  Z0 r g w (.ok (.mk k s es body els line,us)) (.returned (.agg #[.int .i64 k,.string (za s),ve,vb,vl,.int .i64 line])) (Yu w5 N (.int .i64 k) (.string (za s)) ve vb vl (.int .i64 line)):=by
 refine ⟨xD hK hN _ _ _ _ _ _,_,o,cap,rfl,?_,hrd.keep (Yc _ _ _ _ _ _ _ _ (by omega)) (Yc _ _ _ _ _ _ _ _ (by omega))⟩
 have hs:w5.heap.size≤(Yu w5 N (.int .i64 k) (.string (za s)) ve vb vl (.int .i64 line)).heap.size:=by simp
 have hkp:∀j,B≤j→j<w5.heap.size→(Yu w5 N (.int .i64 k) (.string (za s)) ve vb vl (.int .i64 line)).heap[j]?=w5.heap[j]?:=fun j hj _=>Yc _ _ _ _ _ _ _ _ (by omega)
 exact yS.wide (yS.of k s line (he.kept hs hkp) (hb.kept hs hkp) (hl.kept hs hkp)) fun j hj=>by omega
def zaw (t t1:Tk) (res:PR Ex):PR St :=
 if t.k=1 then
  if zn t1 [61]=true then
   match res with
   | .error a=>.error a
   | .ok (e,us)=>if zn (zx us) [59]=true then .ok (.mk 1 t.s [e] [] [] 0,us.tail) else .error (zx us).at0
  else .error t1.at0
 else .error t.at0
theorem zhh (r g o cap:Nat) (t t1:Tk) (us1:List Tk) (w:World) (res:PR Ex) (h:zh r g o cap (t::t1::us1) w) (hE:zj (t::t1::us1)) (hEnd:∀l us,res=.ok (l,us)→zj us)
  (hex:t.k=1→zn t1 [61]=true→∀w1 o1 cap1,zh r g o1 cap1 us1 w1→zc r w w1→Calls Tryz.prog 44 #[.pointer (some ⟨r,0,none⟩)] w1 (zQ r g w1 res)) :
  Calls Tryz.prog 166 #[.pointer (some ⟨r,0,none⟩)] w (Z0 r g w (zaw t t1 res)):=by
 generalize hres:zaw t t1 res=R;have hr:=h.lt.1;have hgw:=h.lt.2;obtain ⟨w0,hw0⟩:∃w0,w0=w.alloc YR:=⟨_,rfl⟩;have h0:zh r g o cap (t::t1::us1) w0:=by rw [hw0];exact h.alloc _
 have k0:zc r w w0:=by rw [hw0];exact (zc.refl r w).alloc _
 have b0:w0.heap[w.heap.size]?=some YR:=by rw [hw0];exact World.alloc_heap_new _ _
 have hs0:w0.heap.size=w.heap.size+1:=by rw [hw0];simp
 have cn:=Xl r g o cap t (t1::us1) w0 h0 (fun _=>by simp)
 have HW0:Hid (w0=w.alloc YR):=hw0
 unfold zaw at hres
 clear h h0 hw0
 by_cases hk:t.k=1
 ·simp only [if_pos hk] at cn
  rw [if_pos hk] at hres;have hE1:=hE.tail (by omega:t.k≠0)
  go_enter Tryz.func166,Tryz.ntmps166
  go_wp2_with fail
  rw [←HW0.out];refine cn.mono ?_;clear cn HW0;rintro e w1 ⟨hk1,rfl,h1⟩;obtain ⟨w2,hw2⟩:∃w2,w2=w1.alloc (.cells #[.int .i64 1,.string (za t.s),.slice none 0 0,.slice none 0 0,.slice none 0 0,.int .i64 0] 108):=⟨_,rfl⟩;have h2:zh r g (o+5) (cap-1) (t1::us1) w2:=by rw [hw2];exact h1.alloc _
  have hs1:=hk1.size;have b1:=(hk1.block _ (by omega) (by omega)).trans b0
  have b2:w2.heap[w.heap.size]?=some YR:=by rw [hw2];exact (Below.heap_alloc _ _ _ (by omega)).trans b1
  have bP:w2.heap[w1.heap.size]?=some (.cells #[.int .i64 1,.string (za t.s),.slice none 0 0,.slice none 0 0,.slice none 0 0,.int .i64 0] 108 (0,0)):=by rw [hw2];exact World.alloc_heap_new _ _
  have hP:w1.heap.size<w2.heap.size:=(Array.getElem?_eq_some_iff.1 bP).1;have HK2:Hid (zc r w w2):=show zc _ _ _ by rw [hw2];exact (k0.trans hk1).alloc _
  have cd:=Yt r g (o+5) (cap-1) t1 us1 [61] w2 h2 (fun hi=>(hE1.tail (zl hi)).ne)
  have HW2:Hid (w2=w1.alloc (.cells #[.int .i64 1,.string (za t.s),.slice none 0 0,.slice none 0 0,.slice none 0 0,.int .i64 0] 108)):=hw2;have HB:Hid (w2.heap[w.heap.size]?=some YR∧w2.heap[w1.heap.size]?=some (.cells #[.int .i64 1,.string (za t.s),.slice none 0 0,.slice none 0 0,.slice none 0 0,.int .i64 0] 108 (0,0))):=⟨b2,bP⟩;clear hw2 h1 hk1 b0 b1 b2 bP k0 h2
  by_cases hc:zn t1 [61]=true
  ·simp only [if_pos hc] at cd
   rw [if_pos hc] at hres;go_wp2_with fail
   rw [←HW2.out];refine cd.mono ?_;clear cd HW2;rintro e w3 ⟨hk3,rfl,h3⟩;have ct:=hex hk hc w3 _ _ h3 (HK2.out.trans hk3);have HK3:Hid (zc r w2 w3):=hk3;have hs3:=hk3.size;clear hex h3 hk3;go_wp2_with fail
   refine ct.mono ?_;clear ct;rintro e w4 ⟨hk4,hpost⟩;have k24:zc r w2 w4:=HK3.out.trans hk4;rcases res with a | ⟨x,us⟩
   ·simp only at hpost hres
    obtain rfl:=hpost;subst hres;exact ⟨rfl,HK2.out.trans k24,rfl⟩
   ·obtain ⟨v,o4,cap4,rfl,hx,hrd⟩:=hpost
    obtain ⟨xa,xb,xc,x0,x1,x2,xl,rfl⟩:=hx.agg;simp only at hres;have hE4:=hEnd x us rfl;obtain ⟨t5,us5,rfl⟩:=hE4.cons;simp only [zI,List.tail_cons] at hres;have hs2:=HK2.out.size;have hs4:=k24.size;have hs34:=hk4.size;have b4:=(k24.block _ (by omega) (by omega)).trans HB.out.1
    have c4:=(k24.block _ hP (by omega)).trans HB.out.2
    have c4':∀ob,(w4.alloc ob).heap[w1.heap.size]?=some (.cells #[.int .i64 1,.string (za t.s),.slice none 0 0,.slice none 0 0,.slice none 0 0,.int .i64 0] 108 (0,0)):=fun ob=>(Below.heap_alloc _ _ _ (by omega)).trans c4
    obtain ⟨-,-,g2,-,-,-,gf⟩:=zp c4;have g2':=ze g2;have gf2:w4.frozen? ⟨w1.heap.size,2,none⟩=false:=gf 2;have gf2':∀ob,(w4.alloc ob).frozen? ⟨w1.heap.size,2,none⟩=false:=fun ob=>(zp (c4' ob)).2.2.2.2.2.2 2
    have hPl:w1.heap.size<w4.heap.size:=by omega
    obtain ⟨w5,hw5⟩:∃w5,w5=(w4.setCell ⟨w1.heap.size,2,none⟩ (.slice (some ⟨w4.heap.size,0,none⟩) 1 1)).alloc (.cells #[.int .i64 xa,.string xb,.int .i64 xc,.slice x0 x1 x2,.int .i64 xl] 45):=⟨_,rfl⟩;have hw5b:w5=(w4.alloc (.cells #[.int .i64 xa,.string xb,.int .i64 xc,.slice x0 x1 x2,.int .i64 xl] 45)).setCell ⟨w1.heap.size,2,none⟩ (.slice (some ⟨w4.heap.size,0,none⟩) 1 1):=by rw [hw5,World.setCell_alloc_past _ _ _ _ hPl]
    have hkeep:∀k,k≠w1.heap.size→w5.heap[k]?=(w4.alloc (.cells #[.int .i64 xa,.string xb,.int .i64 xc,.slice x0 x1 x2,.int .i64 xl] 45)).heap[k]?:=fun k hk=>by rw [hw5b];exact Below.heap_setCell _ _ _ _ (by simpa using hk)
    have c5:w5.heap[w1.heap.size]?=some (.cells #[.int .i64 1,.string (za t.s),.slice (some ⟨w4.heap.size,0,none⟩) 1 1,.slice none 0 0,.slice none 0 0,.int .i64 0] 108 (0,0)):=by rw [hw5b];exact zm _ (c4' _)
    have b5:=(hkeep w.heap.size (by omega)).trans ((Below.heap_alloc _ _ _ (by omega)).trans b4)
    have k5:zc r w w5:=by rw [hw5b];exact ((HK2.out.trans k24).alloc _).setOther (by simp;omega) _
    have hrd5:zh r g o4 cap4 (t5::us5) w5:=(hrd.alloc (.cells #[.int .i64 xa,.string xb,.int .i64 xc,.slice x0 x1 x2,.int .i64 xl] 45)).keep (hkeep r (by omega)) (hkeep g (by omega))
    have hrow0:=zv.one (S:=fun k=>w3.heap.size≤k) 45 (c:=[.int .i64 xa,.string xb,.int .i64 xc,.slice x0 x1 x2,.int .i64 xl]) hx rfl (by omega)
    have hrow5:zv (fun k=>w3.heap.size≤k) w5 [x] (.slice (some ⟨w4.heap.size,0,none⟩) 1 1):=hrow0.kept (by rw [hw5b];simp) fun k hk _=>hkeep k (by omega)
    have hw5':=hw5.symm;have ce:=Yt r g o4 cap4 t5 us5 [59] w5 hrd5 (fun hi=>(hE4.tail (zl hi)).ne)
    have HK5:Hid (zc r w w5):=k5;have HROW:Hid (zv (fun k=>w3.heap.size≤k) w5 [x] (.slice (some ⟨w4.heap.size,0,none⟩) 1 1)):=hrow5
    have HB5:Hid (w5.heap[w.heap.size]?=some YR∧w5.heap[w1.heap.size]?=some (.cells #[.int .i64 1,.string (za t.s),.slice (some ⟨w4.heap.size,0,none⟩) 1 1,.slice none 0 0,.slice none 0 0,.int .i64 0] 108 (0,0))):=⟨b5,c5⟩;have hP5:w1.heap.size<w5.heap.size:=(Array.getElem?_eq_some_iff.1 c5).1;clear hw5 hw5b hkeep b4 c4 c4' c5 b5 k5 hrd5 hrd gf hk4 k24 HB HK2 HK3 hx hrow0 hrow5
    by_cases hm:zn t5 [59]=true
    ·simp only [if_pos hm] at ce
     rw [if_pos hm] at hres;subst hres;go_wp2_with fail
     refine ce.mono ?_;clear ce hw5';rintro e w6 ⟨hk6,rfl,h6⟩;have b6:=(hk6.block _ (by omega) (by omega)).trans HB5.out.1
     have c6:=(hk6.block _ hP5 (by omega)).trans HB5.out.2
     obtain ⟨e0,e1,e2,e3,e4,e5,-⟩:=zp c6;obtain ⟨q0,q1,q2,q3,q4,q5,qf⟩:=zp b6;obtain ⟨z0,z1,z2,z3,z4,z5,-⟩:=zp (zP b6 (.int .i64 1) (.string (za t.s)) (.slice (some ⟨w4.heap.size,0,none⟩) 1 1) (.slice none 0 0) (.slice none 0 0) (.int .i64 0));have hrow6:zv (fun k=>w3.heap.size≤k) w6 [x] (.slice (some ⟨w4.heap.size,0,none⟩) 1 1):=HROW.out.kept hk6.size fun k hk hlt=>hk6.block k hlt (by omega)
     have HP:Hid (Z0 r g w (.ok (.mk 1 t.s [x] [] [] 0,us5)) (.returned (.agg #[.int .i64 1,.string (za t.s),.slice (some ⟨w4.heap.size,0,none⟩) 1 1,.slice none 0 0,.slice none 0 0,.int .i64 0])) (Yu w6 w.heap.size (.int .i64 1) (.string (za t.s)) (.slice (some ⟨w4.heap.size,0,none⟩) 1 1) (.slice none 0 0) (.slice none 0 0) (.int .i64 0))) :=
      Z0.of_set6 (B:=w3.heap.size) 1 t.s 0 (HK5.out.trans hk6) (Nat.le_refl _) hr hgw hrow6 (zD.nil _ _) (zD.nil _ _) (by omega) h6
     clear b6 c6 hrow6 hk6 h6 HB5 HROW HK5;go_wp2
     exact bodyPost_ret (v:=.agg #[.int .i64 1,.string (za t.s),.slice (some ⟨w4.heap.size,0,none⟩) 1 1,.slice none 0 0,.slice none 0 0,.int .i64 0]) (by simp [results,Tryz.results166,go_sem,z0,z1,z2,z3,z4,z5]) rfl HP.out
    ·simp only [if_neg hm] at ce
     rw [if_neg hm] at hres;subst hres;go_wp2_with fail
     refine ce.mono ?_;clear ce;rintro e w6 ⟨hk6,rfl⟩;exact ⟨rfl,HK5.out.trans hk6,rfl⟩
  ·simp only [if_neg hc] at cd
   rw [if_neg hc] at hres;subst hres;go_wp2_with fail
   rw [←HW2.out];refine cd.mono ?_;clear cd;rintro e w3 ⟨hk3,rfl⟩;exact ⟨rfl,HK2.out.trans hk3,rfl⟩
 ·simp only [if_neg hk] at cn
  rw [if_neg hk] at hres;subst hres
  go_enter Tryz.func166,Tryz.ntmps166
  go_wp2_with fail
  rw [←HW0.out];refine cn.mono ?_;clear cn;rintro e w1 ⟨hk1,rfl⟩;exact ⟨rfl,k0.trans hk1,rfl⟩
def xZ (t:Tk) (ts:List Tk) (res:PR Ex):PR St :=
 if zn t [59]=true then .ok (.mk 6 [] [] [] [] 0,ts) else
 match res with
 | .error a=>.error a
 | .ok (e,us)=>if zn (zx us) [59]=true then .ok (.mk 6 [] [e] [] [] 0,us.tail) else .error (zx us).at0
theorem zbs (r g o cap:Nat) (t:Tk) (ts:List Tk) (w:World) (res:PR Ex) (h:zh r g o cap (t::ts) w) (hE:zj (t::ts)) (hEnd:∀l us,res=.ok (l,us)→zj us)
  (hex:zn t [59]=false→∀w1 o1 cap1,zh r g o1 cap1 (t::ts) w1→zc r w w1→Calls Tryz.prog 44 #[.pointer (some ⟨r,0,none⟩)] w1 (zQ r g w1 res)) :
  Calls Tryz.prog 168 #[.pointer (some ⟨r,0,none⟩)] w (Z0 r g w (xZ t ts res)):=by
 generalize hres:xZ t ts res=R;have hr:=h.lt.1;have hgw:=h.lt.2;obtain ⟨w2,hw2⟩:∃w2,w2=(w.alloc YR).alloc (.cells #[.int .i64 6,.string ⟨#[]⟩,.slice none 0 0,.slice none 0 0,.slice none 0 0,.int .i64 0] 108):=⟨_,rfl⟩;have h2:zh r g o cap (t::ts) w2:=by rw [hw2];exact (h.alloc _).alloc _
 have k2:zc r w w2:=by rw [hw2];exact ((zc.refl r w).alloc _).alloc _
 have b2:w2.heap[w.heap.size]?=some YR:=by rw [hw2,Below.heap_alloc _ _ _ (by simp)];exact World.alloc_heap_new _ _
 have bP:w2.heap[w.heap.size+1]?=some (.cells #[.int .i64 6,.string ⟨#[]⟩,.slice none 0 0,.slice none 0 0,.slice none 0 0,.int .i64 0] 108 (0,0)):=by
  rw [hw2]
  have:=World.alloc_heap_new (w.alloc YR) (.cells #[.int .i64 6,.string ⟨#[]⟩,.slice none 0 0,.slice none 0 0,.slice none 0 0,.int .i64 0] 108)
  simpa using this
 have hP:w.heap.size+1<w2.heap.size:=(Array.getElem?_eq_some_iff.1 bP).1;have HK2:Hid (zc r w w2):=k2;have HW2:Hid (w2=(w.alloc YR).alloc (.cells #[.int .i64 6,.string ⟨#[]⟩,.slice none 0 0,.slice none 0 0,.slice none 0 0,.int .i64 0] 108)):=hw2;have HB:Hid (w2.heap[w.heap.size]?=some YR∧w2.heap[w.heap.size+1]?=some (.cells #[.int .i64 6,.string ⟨#[]⟩,.slice none 0 0,.slice none 0 0,.slice none 0 0,.int .i64 0] 108 (0,0))):=⟨b2,bP⟩;have cs:=ZL r g o cap t ts [59] w2 h2 (fun hi=>(hE.tail (zl hi)).ne)
 unfold xZ at hres
 clear h hw2 h2 k2 b2 bP
 by_cases hi:zn t [59]=true
 ·rw [hi] at cs
  rw [if_pos hi] at hres;subst hres;clear hex hEnd
  go_enter Tryz.func168,Tryz.ntmps168
  go_wp2_with fail
  rw [←HW2.out];refine cs.mono ?_;clear cs HW2;rintro e w6 ⟨rfl,hk6,hr6⟩;have h6:zh r g (o+5) (cap-1) ts w6:=by simpa using hr6
  have b6:=(hk6.block _ (by omega) (by omega)).trans HB.out.1
  have c6:=(hk6.block _ hP (by omega)).trans HB.out.2
  obtain ⟨e0,e1,e2,e3,e4,e5,-⟩:=zp c6;obtain ⟨q0,q1,q2,q3,q4,q5,qf⟩:=zp b6;obtain ⟨z0,z1,z2,z3,z4,z5,-⟩:=zp (zP b6 (.int .i64 6) (.string ⟨#[]⟩) (.slice none 0 0) (.slice none 0 0) (.slice none 0 0) (.int .i64 0))
  have HP:Hid (Z0 r g w (.ok (.mk 6 [] [] [] [] 0,ts)) (.returned (.agg #[.int .i64 6,.string ⟨#[]⟩,.slice none 0 0,.slice none 0 0,.slice none 0 0,.int .i64 0])) (Yu w6 w.heap.size (.int .i64 6) (.string ⟨#[]⟩) (.slice none 0 0) (.slice none 0 0) (.slice none 0 0) (.int .i64 0))) :=
   Z0.of_set6 (B:=w.heap.size+1) 6 [] 0 (HK2.out.trans hk6) (Nat.le_refl _) hr hgw (.inl ⟨rfl,rfl⟩) (zD.nil _ _) (zD.nil _ _) (Nat.lt_succ_self _) h6
  clear b6 c6 hk6 h6 hr6 HB HK2;go_wp2
  exact bodyPost_ret (v:=.agg #[.int .i64 6,.string ⟨#[]⟩,.slice none 0 0,.slice none 0 0,.slice none 0 0,.int .i64 0]) (by simp [results,Tryz.results168,go_sem,z0,z1,z2,z3,z4,z5]) rfl HP.out
 ·have hi':zn t [59]=false:=by simpa using hi
  rw [hi'] at cs;rw [if_neg hi] at hres
  go_enter Tryz.func168,Tryz.ntmps168
  go_wp2_with fail
  rw [←HW2.out];refine cs.mono ?_;clear cs HW2;rintro e w3 ⟨rfl,hk3,hr3⟩;have h3:zh r g o cap (t::ts) w3:=by simpa using hr3
  have ct:=hex hi' w3 _ _ h3 (HK2.out.trans hk3);have HK3:Hid (zc r w2 w3):=hk3;have hs3:=hk3.size;clear hex h3 hr3 hk3;go_wp2_with fail
  refine ct.mono ?_;clear ct;rintro e w4 ⟨hk4,hpost⟩;have k24:zc r w2 w4:=HK3.out.trans hk4;rcases res with a | ⟨x,us⟩
  ·simp only at hpost hres
   obtain rfl:=hpost;subst hres;exact ⟨rfl,HK2.out.trans k24,rfl⟩
  ·obtain ⟨v,o4,cap4,rfl,hx,hrd⟩:=hpost
   obtain ⟨xa,xb,xc,x0,x1,x2,xl,rfl⟩:=hx.agg;simp only at hres;have hE4:=hEnd x us rfl;obtain ⟨t5,us5,rfl⟩:=hE4.cons;simp only [zI,List.tail_cons] at hres;have hs2:=HK2.out.size;have hs4:=k24.size;have hs34:=hk4.size;have b4:=(k24.block _ (by omega) (by omega)).trans HB.out.1
   have c4:=(k24.block _ hP (by omega)).trans HB.out.2
   have c4':∀ob,(w4.alloc ob).heap[w.heap.size+1]?=some (.cells #[.int .i64 6,.string ⟨#[]⟩,.slice none 0 0,.slice none 0 0,.slice none 0 0,.int .i64 0] 108 (0,0)):=fun ob=>(Below.heap_alloc _ _ _ (by omega)).trans c4
   obtain ⟨-,-,g2,-,-,-,gf⟩:=zp c4;have g2':=ze g2;have gf2:w4.frozen? ⟨w.heap.size+1,2,none⟩=false:=gf 2;have gf2':∀ob,(w4.alloc ob).frozen? ⟨w.heap.size+1,2,none⟩=false:=fun ob=>(zp (c4' ob)).2.2.2.2.2.2 2
   have hPl:w.heap.size+1<w4.heap.size:=by omega
   obtain ⟨w5,hw5⟩:∃w5,w5=(w4.setCell ⟨w.heap.size+1,2,none⟩ (.slice (some ⟨w4.heap.size,0,none⟩) 1 1)).alloc (.cells #[.int .i64 xa,.string xb,.int .i64 xc,.slice x0 x1 x2,.int .i64 xl] 45):=⟨_,rfl⟩;have hw5b:w5=(w4.alloc (.cells #[.int .i64 xa,.string xb,.int .i64 xc,.slice x0 x1 x2,.int .i64 xl] 45)).setCell ⟨w.heap.size+1,2,none⟩ (.slice (some ⟨w4.heap.size,0,none⟩) 1 1):=by rw [hw5,World.setCell_alloc_past _ _ _ _ hPl]
   have hkeep:∀k,k≠w.heap.size+1→w5.heap[k]?=(w4.alloc (.cells #[.int .i64 xa,.string xb,.int .i64 xc,.slice x0 x1 x2,.int .i64 xl] 45)).heap[k]?:=fun k hk=>by rw [hw5b];exact Below.heap_setCell _ _ _ _ (by simpa using hk)
   have c5:w5.heap[w.heap.size+1]?=some (.cells #[.int .i64 6,.string ⟨#[]⟩,.slice (some ⟨w4.heap.size,0,none⟩) 1 1,.slice none 0 0,.slice none 0 0,.int .i64 0] 108 (0,0)):=by rw [hw5b];exact zm _ (c4' _)
   have b5:=(hkeep w.heap.size (by omega)).trans ((Below.heap_alloc _ _ _ (by omega)).trans b4)
   have k5:zc r w w5:=by rw [hw5b];exact ((HK2.out.trans k24).alloc _).setOther (by simp) _
   have hrd5:zh r g o4 cap4 (t5::us5) w5:=(hrd.alloc (.cells #[.int .i64 xa,.string xb,.int .i64 xc,.slice x0 x1 x2,.int .i64 xl] 45)).keep (hkeep r (by omega)) (hkeep g (by omega))
   have hrow0:=zv.one (S:=fun k=>w3.heap.size≤k) 45 (c:=[.int .i64 xa,.string xb,.int .i64 xc,.slice x0 x1 x2,.int .i64 xl]) hx rfl (by omega)
   have hrow5:zv (fun k=>w3.heap.size≤k) w5 [x] (.slice (some ⟨w4.heap.size,0,none⟩) 1 1):=hrow0.kept (by rw [hw5b];simp) fun k hk _=>hkeep k (by omega)
   have hw5':=hw5.symm;have ce:=Yt r g o4 cap4 t5 us5 [59] w5 hrd5 (fun hi=>(hE4.tail (zl hi)).ne)
   have HK5:Hid (zc r w w5):=k5;have HROW:Hid (zv (fun k=>w3.heap.size≤k) w5 [x] (.slice (some ⟨w4.heap.size,0,none⟩) 1 1)):=hrow5
   have HB5:Hid (w5.heap[w.heap.size]?=some YR∧w5.heap[w.heap.size+1]?=some (.cells #[.int .i64 6,.string ⟨#[]⟩,.slice (some ⟨w4.heap.size,0,none⟩) 1 1,.slice none 0 0,.slice none 0 0,.int .i64 0] 108 (0,0))):=⟨b5,c5⟩;have hP5:w.heap.size+1<w5.heap.size:=(Array.getElem?_eq_some_iff.1 c5).1;clear hw5 hw5b hkeep b4 c4 c4' c5 b5 k5 hrd5 hrd gf hk4 k24 HB HK2 HK3 hx hrow0 hrow5
   by_cases hm:zn t5 [59]=true
   ·simp only [if_pos hm] at ce
    rw [if_pos hm] at hres;subst hres;go_wp2_with fail
    refine ce.mono ?_;clear ce hw5';rintro e w6 ⟨hk6,rfl,h6⟩;have b6:=(hk6.block _ (by omega) (by omega)).trans HB5.out.1
    have c6:=(hk6.block _ hP5 (by omega)).trans HB5.out.2
    obtain ⟨e0,e1,e2,e3,e4,e5,-⟩:=zp c6;obtain ⟨q0,q1,q2,q3,q4,q5,qf⟩:=zp b6;obtain ⟨z0,z1,z2,z3,z4,z5,-⟩:=zp (zP b6 (.int .i64 6) (.string ⟨#[]⟩) (.slice (some ⟨w4.heap.size,0,none⟩) 1 1) (.slice none 0 0) (.slice none 0 0) (.int .i64 0));have hrow6:zv (fun k=>w3.heap.size≤k) w6 [x] (.slice (some ⟨w4.heap.size,0,none⟩) 1 1):=HROW.out.kept hk6.size fun k hk hlt=>hk6.block k hlt (by omega)
    have HP:Hid (Z0 r g w (.ok (.mk 6 [] [x] [] [] 0,us5)) (.returned (.agg #[.int .i64 6,.string ⟨#[]⟩,.slice (some ⟨w4.heap.size,0,none⟩) 1 1,.slice none 0 0,.slice none 0 0,.int .i64 0])) (Yu w6 w.heap.size (.int .i64 6) (.string ⟨#[]⟩) (.slice (some ⟨w4.heap.size,0,none⟩) 1 1) (.slice none 0 0) (.slice none 0 0) (.int .i64 0))) :=
     Z0.of_set6 (B:=w3.heap.size) 6 [] 0 (HK5.out.trans hk6) (Nat.le_refl _) hr hgw hrow6 (zD.nil _ _) (zD.nil _ _) (by omega) h6
    clear b6 c6 hrow6 hk6 h6 HB5 HROW HK5;go_wp2
    exact bodyPost_ret (v:=.agg #[.int .i64 6,.string ⟨#[]⟩,.slice (some ⟨w4.heap.size,0,none⟩) 1 1,.slice none 0 0,.slice none 0 0,.int .i64 0]) (by simp [results,Tryz.results168,go_sem,z0,z1,z2,z3,z4,z5]) rfl HP.out
   ·simp only [if_neg hm] at ce
    rw [if_neg hm] at hres;subst hres;go_wp2_with fail
    refine ce.mono ?_;clear ce;rintro e w6 ⟨hk6,rfl⟩;exact ⟨rfl,HK5.out.trans hk6,rfl⟩
end Go.Proofs.YtpejpbbdgblbeaaGreatDoor
