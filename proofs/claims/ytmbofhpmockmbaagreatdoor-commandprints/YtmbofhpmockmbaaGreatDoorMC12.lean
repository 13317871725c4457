import Derived.Test.YtmbofhpmockmbaaGreatDoorMC11
namespace Go.Proofs.YtmbofhpmockmbaaGreatDoor
open Go.RowKit Go.Shelf
set_option maxHeartbeats 16000000
set_option maxRecDepth 100000
def UK (t:Tk):PR (List Ex)→PR Ex
 | .error a=>.error a
 | .ok (l,ts)=>.ok (.mk 5 t.s 0 l t.line,ts)
theorem zb.setOther {r:Nat} {w w':World} (h:zb r w w') {p:Addr} (hp:w.heap.size≤p.block) (v:Value):zb r w (w'.setCell p v):=by
 have e:Below 0 w' (w'.setCell p v):=(Below.refl 0 w').setCell (p:=p) (Nat.zero_le _) v;exact ⟨e.os.trans h.os,e.tape.trans h.tape,e.output.trans h.output,Nat.le_trans h.size e.size,fun k hk hr=>(Below.heap_setCell _ _ _ _ (by omega)).trans (h.block k hk hr)⟩
theorem Xj {w w':World} {p:Addr} (h:w'.heap[p.block]?=w.heap[p.block]?):w'.frozen? p=w.frozen? p:=by
 simp only [World.frozen?,h]
theorem Uc (r g o cap:Nat) (t u:Tk) (us:List Tk) (w:World) (res:PR (List Ex)) (h:zj r g o cap (t::u::us) w) (hk:t.k=1) (hu:zk u [40]=true)
  (hbr:∀Z o1 cap1,zj r g o1 cap1 (u::us) Z→zb r w Z→Calls Tryz.prog 177 #[.pointer (some ⟨r,0,none⟩),.func (.func 74) #[.pointer (some ⟨r,0,none⟩)] #[]] Z (Y7 r g Z res)) :
  Calls Tryz.prog 176 #[.pointer (some ⟨r,0,none⟩)] w (zr r g w (UK t res)):=by
 have ay:∀(fn:Fn) (first cap:Array Value) (w:World),(Instr.makeFunc fn first cap).run Tryz.prog w=.ok (.func fn first cap) w:=fun _ _ _ _=>rfl
 generalize hres:UK t res=res';have hf:=xk;have hr:=h.lt.1;have az:=h.lt.2;have h0:=h.alloc (.cells #[.int .i64 0,.string ⟨#[]⟩,.int .i64 0,.slice none 0 0,.int .i64 0] 90);have ch:=ZD r g o cap t (u::us) _ h0;obtain ⟨w2,M⟩:∃w2,w2=((w.alloc (.cells #[.int .i64 0,.string ⟨#[]⟩,.int .i64 0,.slice none 0 0,.int .i64 0] 90)).alloc (Zc t)).alloc (.cells #[.int .i64 4,.string ⟨#[]⟩,.int .i64 0,.slice none 0 0,.int .i64 t.line] 90):=⟨_,rfl⟩;have h2:zj r g o cap (t::u::us) w2:=by rw [M];exact (h0.alloc _).alloc _
 have ad:Hid (zb r w w2):=by rw [M];exact (((zb.refl r w).alloc _).alloc _).alloc _
 have cn:=Vn r g o cap t (u::us) w2 h2 (fun _=>by simp)
 simp only [hk,if_true] at cn;clear h h0 h2
 go_enter Tryz.func176,Tryz.ntmps176
 go_wp2_with fail
 refine ch.mono ?_;clear ch;rintro e Z ⟨rfl,rfl⟩;simp only [YH];go_wp2_with fail
 rw [←M];refine cn.mono ?_;clear cn;rintro e T ⟨U,rfl,h3⟩
 have n2:w2.heap[w.heap.size+1+1]?=some (.cells #[.int .i64 4,.string ⟨#[]⟩,.int .i64 0,.slice none 0 0,.int .i64 t.line] 90 (0,0)):=by
  have hx:=World.alloc_heap_new ((w.alloc (.cells #[.int .i64 0,.string ⟨#[]⟩,.int .i64 0,.slice none 0 0,.int .i64 0] 90)).alloc (Zc t)) (.cells #[.int .i64 4,.string ⟨#[]⟩,.int .i64 0,.slice none 0 0,.int .i64 t.line] 90);rw [←M,show ((w.alloc (.cells #[.int .i64 0,.string ⟨#[]⟩,.int .i64 0,.slice none 0 0,.int .i64 0] 90)).alloc (Zc t)).heap.size=w.heap.size+1+1 by simp] at hx
  exact hx
 have n0:w2.heap[w.heap.size]?=some (.cells #[.int .i64 0,.string ⟨#[]⟩,.int .i64 0,.slice none 0 0,.int .i64 0] 90 (0,0)):=by
  rw [M,Below.heap_alloc _ _ _ (by simp;omega),Below.heap_alloc _ _ _ (by simp)]
  exact World.alloc_heap_new _ _
 have I:=(U.block _ (Array.getElem?_eq_some_iff.1 n2).1 (by omega)).trans n2
 have ag:=(U.block _ (Array.getElem?_eq_some_iff.1 n0).1 (by omega)).trans n0
 have L:Hid (zb r w T):=ad.out.trans U;clear n2 n0 U M ad;have c0:T.cell? ⟨w.heap.size+1+1,0,none⟩=some (.int .i64 4):=by simp only [World.cell?,I];rfl
 have c1:T.cell? ⟨w.heap.size+1+1,1,none⟩=some (.string ⟨#[]⟩):=by simp only [World.cell?,I];rfl
 have c2:T.cell? ⟨w.heap.size+1+1,2,none⟩=some (.int .i64 0):=by simp only [World.cell?,I];rfl
 have c3:T.cell? ⟨w.heap.size+1+1,3,none⟩=some (.slice none 0 0):=by simp only [World.cell?,I];rfl
 have c4:T.cell? ⟨w.heap.size+1+1,4,none⟩=some (.int .i64 t.line):=by simp only [World.cell?,I];rfl
 have cf:T.frozen? ⟨w.heap.size+1+1,1,none⟩=false:=by simp only [World.frozen?,I];rfl
 obtain ⟨w4,z⟩:∃w4,w4=T.setCell ⟨w.heap.size+1+1,1,none⟩ (.string (za t.s)):=⟨_,rfl⟩;have d0:w4.cell? ⟨w.heap.size+1+1,0,none⟩=some (.int .i64 4):=by rw [z,World.cell?_setCell_other _ _ _ _ (by simp)];exact c0
 have d1:w4.cell? ⟨w.heap.size+1+1,1,none⟩=some (.string (za t.s)):=by rw [z];exact World.cell?_setCell_same _ _ _ c1
 have d2:w4.cell? ⟨w.heap.size+1+1,2,none⟩=some (.int .i64 0):=by rw [z,World.cell?_setCell_other _ _ _ _ (by simp)];exact c2
 have d3:w4.cell? ⟨w.heap.size+1+1,3,none⟩=some (.slice none 0 0):=by rw [z,World.cell?_setCell_other _ _ _ _ (by simp)];exact c3
 have d4:w4.cell? ⟨w.heap.size+1+1,4,none⟩=some (.int .i64 t.line):=by rw [z,World.cell?_setCell_other _ _ _ _ (by simp)];exact c4
 have y:∀k,k≠w.heap.size+1+1→w4.heap[k]?=T.heap[k]?:=fun k hk=>by rw [z];exact Below.heap_setCell _ _ _ _ (by simpa using hk)
 have h4:zj r g (o+5) (cap-1) (u::us) w4:=h3.keep (y r (by omega)) (y g (by omega))
 have ak:Hid (zb r w w4):=⟨by rw [z];exact L.out.os,by rw [z];exact L.out.tape,by rw [z];exact L.out.output,by rw [z];simpa using L.out.size,fun k hk hr=>(y k (by omega)).trans (L.out.block k hk hr)⟩
 have X:=(y w.heap.size (by omega)).trans ag
 have ci:=zar r g (o+5) (cap-1) u us [40] w4 h4;rw [hu] at ci;have ah:Hid (T.setCell ⟨w.heap.size+1+1,1,none⟩ (.string (za t.s))=w4):=z.symm;obtain ⟨N,A⟩:∃N,N=(w4.alloc (Zc u)).alloc (Zc u):=⟨_,rfl⟩;rw [←A] at ci;have ar:Hid (zj r g (o+5) (cap-1) (u::us) N):=by rw [A];exact (h4.alloc _).alloc _
 have ap:Hid (zb r w N):=by rw [A];exact (ak.out.alloc _).alloc _
 have e0:N.cell? ⟨w.heap.size+1+1,0,none⟩=some (.int .i64 4):=by rw [A];exact zc (zc d0 _) _
 have e1:N.cell? ⟨w.heap.size+1+1,1,none⟩=some (.string (za t.s)):=by rw [A];exact zc (zc d1 _) _
 have e2:N.cell? ⟨w.heap.size+1+1,2,none⟩=some (.int .i64 0):=by rw [A];exact zc (zc d2 _) _
 have e3:N.cell? ⟨w.heap.size+1+1,3,none⟩=some (.slice none 0 0):=by rw [A];exact zc (zc d3 _) _
 have e4:N.cell? ⟨w.heap.size+1+1,4,none⟩=some (.int .i64 t.line):=by rw [A];exact zc (zc d4 _) _
 have aa:w.heap.size<w4.heap.size:=(Array.getElem?_eq_some_iff.1 X).1
 have p0:N.heap[w.heap.size]?=some (.cells #[.int .i64 0,.string ⟨#[]⟩,.int .i64 0,.slice none 0 0,.int .i64 0] 90 (0,0)):=by
  rw [A,Below.heap_alloc _ _ _ (by simp;omega),Below.heap_alloc _ _ _ aa];exact X
 have ao:N.frozen? ⟨w.heap.size+1+1,0,none⟩=false:=by
  have Q:w4.frozen? ⟨w.heap.size+1+1,0,none⟩=false:=by rw [z,World.frozen?_setCell];simp only [World.frozen?,I];rfl
  have R:=World.block_lt_of_cell? w4 _ d0;rw [A];simp only [World.frozen?] at Q ⊢;rw [Below.heap_alloc _ _ _ (by simp;simp at R;omega),Below.heap_alloc _ _ _ R];exact Q
 have ai:N.frozen? ⟨w.heap.size+1+1,3,none⟩=false:=by
  have Q:w4.frozen? ⟨w.heap.size+1+1,3,none⟩=false:=by rw [z,World.frozen?_setCell];simp only [World.frozen?,I];rfl
  have R:=World.block_lt_of_cell? w4 _ d0;rw [A];simp only [World.frozen?] at Q ⊢;rw [Below.heap_alloc _ _ _ (by simp;simp at R;omega),Below.heap_alloc _ _ _ R];exact Q
 clear z y h3 h4 I ag X L ak d0 d1 d2 d3 d4 A aa;go_wp2_with fail
 rw [ah.out];refine ci.mono ?_;clear ci c0 c1 c2 c3 c4 cf;rintro e w6 ⟨rfl,rfl⟩;obtain ⟨w7,E⟩:∃w7,w7=w6.setCell ⟨w.heap.size+1+1,0,none⟩ (.int .i64 5):=⟨_,rfl⟩;have an:Hid (w6.setCell ⟨w.heap.size+1+1,0,none⟩ (.int .i64 5)=w7):=E.symm;have y:∀k,k≠w.heap.size+1+1→w7.heap[k]?=w6.heap[k]?:=fun k hk=>by rw [E];exact Below.heap_setCell _ _ _ _ (by simpa using hk)
 have h7:zj r g (o+5) (cap-1) (u::us) w7:=ar.out.keep (y r (by omega)) (y g (by omega))
 have k7:zb r w w7:=by rw [E];exact ap.out.setOther (by simp;omega) _
 have ab:Hid (zb r w w7):=k7;have cb:=hbr w7 _ _ h7 k7;have f0:w7.cell? ⟨w.heap.size+1+1,0,none⟩=some (.int .i64 5):=by rw [E];exact World.cell?_setCell_same _ _ _ e0
 have f1:w7.cell? ⟨w.heap.size+1+1,1,none⟩=some (.string (za t.s)):=by rw [E,World.cell?_setCell_other _ _ _ _ (by simp)];exact e1
 have f2:w7.cell? ⟨w.heap.size+1+1,2,none⟩=some (.int .i64 0):=by rw [E,World.cell?_setCell_other _ _ _ _ (by simp)];exact e2
 have f3:w7.cell? ⟨w.heap.size+1+1,3,none⟩=some (.slice none 0 0):=by rw [E,World.cell?_setCell_other _ _ _ _ (by simp)];exact e3
 have f4:w7.cell? ⟨w.heap.size+1+1,4,none⟩=some (.int .i64 t.line):=by rw [E,World.cell?_setCell_other _ _ _ _ (by simp)];exact e4
 have ff:w7.frozen? ⟨w.heap.size+1+1,3,none⟩=false:=by rw [E,World.frozen?_setCell];exact ai
 have p7:=(y w.heap.size (by omega)).trans p0
 clear hbr h7 k7 E y p0;go_wp2_with fail
 rw [an.out];refine cb.mono ?_;clear cb e0 e1 e2 e3 e4 ao ai;rintro e Y ⟨G,O⟩;subst hres;rcases res with a | ⟨l,ts⟩
 ·obtain rfl:=O
  exact ⟨rfl,ab.out.trans G,rfl⟩
 ·obtain ⟨v,o8,V,rfl,J,ae⟩:=O
  have K:r≠w.heap.size+1+1:=by omega
  have g0:=G.cell (p:=⟨w.heap.size+1+1,0,none⟩) (fun h=>K h.symm) f0
  have g1:=G.cell (p:=⟨w.heap.size+1+1,1,none⟩) (fun h=>K h.symm) f1
  have g2:=G.cell (p:=⟨w.heap.size+1+1,2,none⟩) (fun h=>K h.symm) f2
  have g3:=G.cell (p:=⟨w.heap.size+1+1,3,none⟩) (fun h=>K h.symm) f3
  have g4:=G.cell (p:=⟨w.heap.size+1+1,4,none⟩) (fun h=>K h.symm) f4
  have gf:Y.frozen? ⟨w.heap.size+1+1,3,none⟩=false:=(Xj (p:=⟨w.heap.size+1+1,3,none⟩) (G.block _ (World.block_lt_of_cell? w7 _ f3) (fun h=>K h.symm))).trans ff
  have p8:=(G.block w.heap.size (Array.getElem?_eq_some_iff.1 p7).1 (by omega)).trans p7
  have al:Hid (zb r w Y):=ab.out.trans G;have aw:w.heap.size+1+1<w7.heap.size:=World.block_lt_of_cell? w7 _ f0;obtain ⟨H,D⟩:∃H,H=Y.setCell ⟨w.heap.size+1+1,3,none⟩ v:=⟨_,rfl⟩;have ax:Hid (H=Y.setCell ⟨w.heap.size+1+1,3,none⟩ v):=D;have y:∀k,k≠w.heap.size+1+1→H.heap[k]?=Y.heap[k]?:=fun k hk=>by rw [D];exact Below.heap_setCell _ _ _ _ (by simpa using hk)
  have af:Y.heap.size≤H.heap.size:=by rw [D];simp
  have aj:Hid (Zr w7.heap.size H l v):=J.kept af fun k hB _=>y k (by omega)
  have au:Hid (zj r g o8 V ts H):=ae.keep (y r (by omega)) (y g (by omega))
  have aq:Hid (zb r w H):=by rw [D];exact al.out.setOther (by simp;omega) _
  have W:=(y w.heap.size (by omega)).trans p8
  have i0:H.cell? ⟨w.heap.size+1+1,0,none⟩=some (.int .i64 5):=by rw [D,World.cell?_setCell_other _ _ _ _ (by simp)];exact g0
  have i1:H.cell? ⟨w.heap.size+1+1,1,none⟩=some (.string (za t.s)):=by rw [D,World.cell?_setCell_other _ _ _ _ (by simp)];exact g1
  have i2:H.cell? ⟨w.heap.size+1+1,2,none⟩=some (.int .i64 0):=by rw [D,World.cell?_setCell_other _ _ _ _ (by simp)];exact g2
  have i3:H.cell? ⟨w.heap.size+1+1,3,none⟩=some v:=by rw [D];exact World.cell?_setCell_same _ _ _ g3
  have i4:H.cell? ⟨w.heap.size+1+1,4,none⟩=some (.int .i64 t.line):=by rw [D,World.cell?_setCell_other _ _ _ _ (by simp)];exact g4
  have q0:H.cell? ⟨w.heap.size,0,none⟩=some (.int .i64 0):=by simp only [World.cell?,W];rfl
  have q1:H.cell? ⟨w.heap.size,1,none⟩=some (.string ⟨#[]⟩):=by simp only [World.cell?,W];rfl
  have q2:H.cell? ⟨w.heap.size,2,none⟩=some (.int .i64 0):=by simp only [World.cell?,W];rfl
  have q3:H.cell? ⟨w.heap.size,3,none⟩=some (.slice none 0 0):=by simp only [World.cell?,W];rfl
  have q4:H.cell? ⟨w.heap.size,4,none⟩=some (.int .i64 0):=by simp only [World.cell?,W];rfl
  have qf:∀j,H.frozen? ⟨w.heap.size,j,none⟩=false:=fun j=>by simp only [World.frozen?,W];simp
  have am:∃a n c,v=.slice a n c:=by
   rcases J with ⟨-,rfl⟩ | ⟨_,_,_,rfl,_⟩
   ·exact ⟨_,_,_,rfl⟩
   ·exact ⟨_,_,_,rfl⟩
  obtain ⟨va,vn,vc,rfl⟩:=am;clear y J ae f0 f1 f2 f3 f4 ff G p8 g0 g1 g2 g4;have av:=D.symm;clear D;go_wp2
  obtain ⟨z0,z1,z2,z3,z4⟩:=zi W (.int .i64 5) (.string (za t.s)) (.int .i64 0) (.slice va vn vc) (.int .i64 t.line);refine bodyPost_ret (v:=.agg #[.int .i64 5,.string (za t.s),.int .i64 0,.slice va vn vc,.int .i64 t.line]) (by simp [results,Tryz.results176,go_sem,z0,z1,z2,z3,z4]) rfl ⟨Zo aq.out (Nat.le_refl _) _ _ _ _ _,_,o8,V,rfl,?_,?_⟩
  ·have J:Zr w7.heap.size (set5 H w.heap.size (.int .i64 5) (.string (za t.s)) (.int .i64 0) (.slice va vn vc) (.int .i64 t.line)) l (.slice va vn vc) :=
    aj.out.kept (by simp) fun k hB _=>zh _ _ _ _ _ _ _ (by omega)
   exact zM.of_row (J.mono (by omega)) 5 t.s 0 t.line
  ·exact au.out.keep (zh _ _ _ _ _ _ _ (by omega)) (zh _ _ _ _ _ _ _ (by omega))
theorem zH.agg {S:Nat→Prop} {w:World} {x:Ex} {v:Value} (h:zH S w x v):∃(a:Int) (b:ByteArray) (c:Int) (d0:Option Addr) (d1 d2:Nat) (e:Int),v=.agg #[.int .i64 a,.string b,.int .i64 c,.slice d0 d1 d2,.int .i64 e]:=by
 cases h with
 | leaf=>exact ⟨_,_,_,_,_,_,_,rfl⟩
 | node=>exact ⟨_,_,_,_,_,_,_,rfl⟩
abbrev zJ:Obj:=.cells #[.int .i64 0,.string ⟨#[]⟩,.int .i64 0,.slice none 0 0,.int .i64 0] 90
theorem zau (r g:Nat) (w:World) (res:PR Ex) (hr:r<w.heap.size) (hgw:g<w.heap.size)
  (hb:Calls Tryz.prog 98 #[.pointer (some ⟨r,0,none⟩),.int .i64 1] (w.alloc zJ) (zr r g (w.alloc zJ) res)) :
  Calls Tryz.prog 74 #[.pointer (some ⟨r,0,none⟩)] w (zr r g w res):=by
 go_enter Tryz.func74,Tryz.ntmps74
 go_wp2_with fail
 refine hb.mono ?_;clear hb;rintro e w1 ⟨z,h⟩;have J:zb r w w1:=((zb.refl r w).alloc _).trans z;rcases res with a | ⟨x,ts⟩
 ·obtain rfl:=h
  exact ⟨rfl,J,rfl⟩
 ·obtain ⟨v,o,D,rfl,I,A⟩:=h
  obtain ⟨a,b,c,E,G,H,e,rfl⟩:=I.agg;have O:(w.alloc zJ).heap.size=w.heap.size+1:=by simp
  have y:w1.heap[w.heap.size]?=some zJ:=(z.block w.heap.size (by omega) (by omega)).trans (World.alloc_heap_new w _)
  have q0:w1.cell? ⟨w.heap.size,0,none⟩=some (.int .i64 0):=by simp only [World.cell?,y];rfl
  have Z:w1.cell? ⟨w.heap.size,1,none⟩=some (.string ⟨#[]⟩):=by simp only [World.cell?,y];rfl
  have X:w1.cell? ⟨w.heap.size,2,none⟩=some (.int .i64 0):=by simp only [World.cell?,y];rfl
  have Y:w1.cell? ⟨w.heap.size,3,none⟩=some (.slice none 0 0):=by simp only [World.cell?,y];rfl
  have V:w1.cell? ⟨w.heap.size,4,none⟩=some (.int .i64 0):=by simp only [World.cell?,y];rfl
  have W:∀j,w1.frozen? ⟨w.heap.size,j,none⟩=false:=fun j=>by simp only [World.frozen?,y];simp
  have R:Hid (zM (w.alloc zJ).heap.size w1 x (.agg #[.int .i64 a,.string b,.int .i64 c,.slice E G H,.int .i64 e])):=I;have T:Hid (zj r g o D ts w1):=A;have N:Hid (zb r w w1):=J;clear z I A J;go_wp2
  obtain ⟨Q,L,U,M,K⟩:=zi y (.int .i64 a) (.string b) (.int .i64 c) (.slice E G H) (.int .i64 e);refine bodyPost_ret (v:=.agg #[.int .i64 a,.string b,.int .i64 c,.slice E G H,.int .i64 e]) (by simp [results,Tryz.results74,go_sem,Q,L,U,M,K]) rfl ⟨Zo N.out (Nat.le_refl _) _ _ _ _ _,_,o,D,rfl,?_,?_⟩
  ·exact (R.out.kept (w':=set5 w1 w.heap.size (.int .i64 a) (.string b) (.int .i64 c) (.slice E G H) (.int .i64 e)) (by simp) fun k hB _=>zh _ _ _ _ _ _ _ (by omega)).mono (by omega)
  ·exact T.out.keep (zh _ _ _ _ _ _ _ (by omega)) (zh _ _ _ _ _ _ _ (by omega))
end Go.Proofs.YtmbofhpmockmbaaGreatDoor
