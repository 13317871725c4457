import Derived.Test.YtmbofhpmockmbaaGreatDoorMC15
namespace Go.Proofs.YtmbofhpmockmbaaGreatDoor
open Go.RowKit Go.Shelf
set_option maxHeartbeats 16000000
set_option maxRecDepth 100000
def XX (t:Tk):PR (List Ex)→PR Ex
 | .error a=>.error a
 | .ok (l,ts)=>.ok (.mk 5 t.s 0 l t.line,ts)
theorem zb.setOther {r:Nat} {w w':World} (h:zb r w w') {p:Addr} (hp:w.heap.size≤p.block) (v:Value):zb r w (w'.setCell p v):=by
 have e:Below 0 w' (w'.setCell p v):=(Below.refl 0 w').setCell (p:=p) (Nat.zero_le _) v;exact ⟨e.os.trans h.os,e.tape.trans h.tape,e.output.trans h.output,Nat.le_trans h.size e.size,fun k hk hr=>(Below.heap_setCell _ _ _ _ (by omega)).trans (h.block k hk hr)⟩
theorem y6 {w w':World} {p:Addr} (h:w'.heap[p.block]?=w.heap[p.block]?):w'.frozen? p=w.frozen? p:=by
 simp only [World.frozen?,h]
theorem Xs (r g o cap:Nat) (t u:Tk) (us:List Tk) (w:World) (res:PR (List Ex)) (h:zc r g o cap (t::u::us) w) (hk:t.k=1) (hu:zn u [40]=true)
  (hbr:∀X o1 cap1,zc r g o1 cap1 (u::us) X→zb r w X→Calls Tryz.prog 177 #[.pointer (some ⟨r,0,none⟩),.func (.func 74) #[.pointer (some ⟨r,0,none⟩)] #[]] X (yx r g X res)) :
  Calls Tryz.prog 176 #[.pointer (some ⟨r,0,none⟩)] w (zi r g w (XX t res)):=by
 have ax:∀(fn:Fn) (first cap:Array Value) (w:World),(Instr.makeFunc fn first cap).run Tryz.prog w=.ok (.func fn first cap) w:=fun _ _ _ _=>rfl
 generalize hres:XX t res=res';have hf:=Yo;have hr:=h.lt.1;have av:=h.lt.2;have h0:=h.alloc (.cells #[.int .i64 0,.string ⟨#[]⟩,.int .i64 0,.slice none 0 0,.int .i64 0] 90);have ch:=zZ r g o cap t (u::us) _ h0;obtain ⟨w2,L⟩:∃w2,w2=((w.alloc (.cells #[.int .i64 0,.string ⟨#[]⟩,.int .i64 0,.slice none 0 0,.int .i64 0] 90)).alloc (zE t)).alloc (.cells #[.int .i64 4,.string ⟨#[]⟩,.int .i64 0,.slice none 0 0,.int .i64 t.line] 90):=⟨_,rfl⟩;have h2:zc r g o cap (t::u::us) w2:=by rw [L];exact (h0.alloc _).alloc _
 have Z:Hid (zb r w w2):=by rw [L];exact (((zb.refl r w).alloc _).alloc _).alloc _
 have cn:=xj r g o cap t (u::us) w2 h2 (fun _=>by simp)
 simp only [hk,if_true] at cn;clear h h0 h2
 go_enter Tryz.func176,Tryz.ntmps176
 go_wp2_with fail
 refine ch.mono ?_;clear ch;rintro e X ⟨rfl,rfl⟩;simp only [YA];go_wp2_with fail
 rw [←L];refine cn.mono ?_;clear cn;rintro e R ⟨S,rfl,h3⟩
 have n2:w2.heap[w.heap.size+1+1]?=some (.cells #[.int .i64 4,.string ⟨#[]⟩,.int .i64 0,.slice none 0 0,.int .i64 t.line] 90 (0,0)):=by
  have hx:=World.alloc_heap_new ((w.alloc (.cells #[.int .i64 0,.string ⟨#[]⟩,.int .i64 0,.slice none 0 0,.int .i64 0] 90)).alloc (zE t)) (.cells #[.int .i64 4,.string ⟨#[]⟩,.int .i64 0,.slice none 0 0,.int .i64 t.line] 90);rw [←L,show ((w.alloc (.cells #[.int .i64 0,.string ⟨#[]⟩,.int .i64 0,.slice none 0 0,.int .i64 0] 90)).alloc (zE t)).heap.size=w.heap.size+1+1 by simp] at hx
  exact hx
 have n0:w2.heap[w.heap.size]?=some (.cells #[.int .i64 0,.string ⟨#[]⟩,.int .i64 0,.slice none 0 0,.int .i64 0] 90 (0,0)):=by
  rw [L,Below.heap_alloc _ _ _ (by simp;omega),Below.heap_alloc _ _ _ (by simp)]
  exact World.alloc_heap_new _ _
 have H:=(S.block _ (Array.getElem?_eq_some_iff.1 n2).1 (by omega)).trans n2
 have ad:=(S.block _ (Array.getElem?_eq_some_iff.1 n0).1 (by omega)).trans n0
 have J:Hid (zb r w R):=Z.out.trans S;clear n2 n0 S L Z;have c0:R.cell? ⟨w.heap.size+1+1,0,none⟩=some (.int .i64 4):=by simp only [World.cell?,H];rfl
 have c1:R.cell? ⟨w.heap.size+1+1,1,none⟩=some (.string ⟨#[]⟩):=by simp only [World.cell?,H];rfl
 have c2:R.cell? ⟨w.heap.size+1+1,2,none⟩=some (.int .i64 0):=by simp only [World.cell?,H];rfl
 have c3:R.cell? ⟨w.heap.size+1+1,3,none⟩=some (.slice none 0 0):=by simp only [World.cell?,H];rfl
 have c4:R.cell? ⟨w.heap.size+1+1,4,none⟩=some (.int .i64 t.line):=by simp only [World.cell?,H];rfl
 have cf:R.frozen? ⟨w.heap.size+1+1,1,none⟩=false:=by simp only [World.frozen?,H];rfl
 obtain ⟨w4,y⟩:∃w4,w4=R.setCell ⟨w.heap.size+1+1,1,none⟩ (.string (za t.s)):=⟨_,rfl⟩;have d0:w4.cell? ⟨w.heap.size+1+1,0,none⟩=some (.int .i64 4):=by rw [y,World.cell?_setCell_other _ _ _ _ (by simp)];exact c0
 have d1:w4.cell? ⟨w.heap.size+1+1,1,none⟩=some (.string (za t.s)):=by rw [y];exact World.cell?_setCell_same _ _ _ c1
 have d2:w4.cell? ⟨w.heap.size+1+1,2,none⟩=some (.int .i64 0):=by rw [y,World.cell?_setCell_other _ _ _ _ (by simp)];exact c2
 have d3:w4.cell? ⟨w.heap.size+1+1,3,none⟩=some (.slice none 0 0):=by rw [y,World.cell?_setCell_other _ _ _ _ (by simp)];exact c3
 have d4:w4.cell? ⟨w.heap.size+1+1,4,none⟩=some (.int .i64 t.line):=by rw [y,World.cell?_setCell_other _ _ _ _ (by simp)];exact c4
 have x:∀k,k≠w.heap.size+1+1→w4.heap[k]?=R.heap[k]?:=fun k hk=>by rw [y];exact Below.heap_setCell _ _ _ _ (by simpa using hk)
 have h4:zc r g (o+5) (cap-1) (u::us) w4:=h3.keep (x r (by omega)) (x g (by omega))
 have ae:Hid (zb r w w4):=⟨by rw [y];exact J.out.os,by rw [y];exact J.out.tape,by rw [y];exact J.out.output,by rw [y];simpa using J.out.size,fun k hk hr=>(x k (by omega)).trans (J.out.block k hk hr)⟩
 have U:=(x w.heap.size (by omega)).trans ad
 have ci:=VQ r g (o+5) (cap-1) u us [40] w4 h4;rw [hu] at ci;have ab:Hid (R.setCell ⟨w.heap.size+1+1,1,none⟩ (.string (za t.s))=w4):=y.symm;obtain ⟨M,z⟩:∃M,M=(w4.alloc (zE u)).alloc (zE u):=⟨_,rfl⟩;rw [←z] at ci;have ak:Hid (zc r g (o+5) (cap-1) (u::us) M):=by rw [z];exact (h4.alloc _).alloc _
 have am:Hid (zb r w M):=by rw [z];exact (ae.out.alloc _).alloc _
 have e0:M.cell? ⟨w.heap.size+1+1,0,none⟩=some (.int .i64 4):=by rw [z];exact ze (ze d0 _) _
 have e1:M.cell? ⟨w.heap.size+1+1,1,none⟩=some (.string (za t.s)):=by rw [z];exact ze (ze d1 _) _
 have e2:M.cell? ⟨w.heap.size+1+1,2,none⟩=some (.int .i64 0):=by rw [z];exact ze (ze d2 _) _
 have e3:M.cell? ⟨w.heap.size+1+1,3,none⟩=some (.slice none 0 0):=by rw [z];exact ze (ze d3 _) _
 have e4:M.cell? ⟨w.heap.size+1+1,4,none⟩=some (.int .i64 t.line):=by rw [z];exact ze (ze d4 _) _
 have af:w.heap.size<w4.heap.size:=(Array.getElem?_eq_some_iff.1 U).1
 have p0:M.heap[w.heap.size]?=some (.cells #[.int .i64 0,.string ⟨#[]⟩,.int .i64 0,.slice none 0 0,.int .i64 0] 90 (0,0)):=by
  rw [z,Below.heap_alloc _ _ _ (by simp;omega),Below.heap_alloc _ _ _ af];exact U
 have ao:M.frozen? ⟨w.heap.size+1+1,0,none⟩=false:=by
  have N:w4.frozen? ⟨w.heap.size+1+1,0,none⟩=false:=by rw [y,World.frozen?_setCell];simp only [World.frozen?,H];rfl
  have Q:=World.block_lt_of_cell? w4 _ d0;rw [z];simp only [World.frozen?] at N ⊢;rw [Below.heap_alloc _ _ _ (by simp;simp at Q;omega),Below.heap_alloc _ _ _ Q];exact N
 have ag:M.frozen? ⟨w.heap.size+1+1,3,none⟩=false:=by
  have N:w4.frozen? ⟨w.heap.size+1+1,3,none⟩=false:=by rw [y,World.frozen?_setCell];simp only [World.frozen?,H];rfl
  have Q:=World.block_lt_of_cell? w4 _ d0;rw [z];simp only [World.frozen?] at N ⊢;rw [Below.heap_alloc _ _ _ (by simp;simp at Q;omega),Below.heap_alloc _ _ _ Q];exact N
 clear y x h3 h4 H ad U J ae d0 d1 d2 d3 d4 z af;go_wp2_with fail
 rw [ab.out];refine ci.mono ?_;clear ci c0 c1 c2 c3 c4 cf;rintro e w6 ⟨rfl,rfl⟩;obtain ⟨w7,D⟩:∃w7,w7=w6.setCell ⟨w.heap.size+1+1,0,none⟩ (.int .i64 5):=⟨_,rfl⟩;have ap:Hid (w6.setCell ⟨w.heap.size+1+1,0,none⟩ (.int .i64 5)=w7):=D.symm;have x:∀k,k≠w.heap.size+1+1→w7.heap[k]?=w6.heap[k]?:=fun k hk=>by rw [D];exact Below.heap_setCell _ _ _ _ (by simpa using hk)
 have h7:zc r g (o+5) (cap-1) (u::us) w7:=ak.out.keep (x r (by omega)) (x g (by omega))
 have k7:zb r w w7:=by rw [D];exact am.out.setOther (by simp;omega) _
 have ai:Hid (zb r w w7):=k7;have cb:=hbr w7 _ _ h7 k7;have f0:w7.cell? ⟨w.heap.size+1+1,0,none⟩=some (.int .i64 5):=by rw [D];exact World.cell?_setCell_same _ _ _ e0
 have f1:w7.cell? ⟨w.heap.size+1+1,1,none⟩=some (.string (za t.s)):=by rw [D,World.cell?_setCell_other _ _ _ _ (by simp)];exact e1
 have f2:w7.cell? ⟨w.heap.size+1+1,2,none⟩=some (.int .i64 0):=by rw [D,World.cell?_setCell_other _ _ _ _ (by simp)];exact e2
 have f3:w7.cell? ⟨w.heap.size+1+1,3,none⟩=some (.slice none 0 0):=by rw [D,World.cell?_setCell_other _ _ _ _ (by simp)];exact e3
 have f4:w7.cell? ⟨w.heap.size+1+1,4,none⟩=some (.int .i64 t.line):=by rw [D,World.cell?_setCell_other _ _ _ _ (by simp)];exact e4
 have ff:w7.frozen? ⟨w.heap.size+1+1,3,none⟩=false:=by rw [D,World.frozen?_setCell];exact ag
 have p7:=(x w.heap.size (by omega)).trans p0
 clear hbr h7 k7 D x p0;go_wp2_with fail
 rw [ap.out];refine cb.mono ?_;clear cb e0 e1 e2 e3 e4 ao ag;rintro e W ⟨E,O⟩;subst hres;rcases res with a | ⟨l,ts⟩
 ·obtain rfl:=O
  exact ⟨rfl,ai.out.trans E,rfl⟩
 ·obtain ⟨v,o8,T,rfl,I,ah⟩:=O
  have K:r≠w.heap.size+1+1:=by omega
  have g0:=E.cell (p:=⟨w.heap.size+1+1,0,none⟩) (fun h=>K h.symm) f0
  have g1:=E.cell (p:=⟨w.heap.size+1+1,1,none⟩) (fun h=>K h.symm) f1
  have g2:=E.cell (p:=⟨w.heap.size+1+1,2,none⟩) (fun h=>K h.symm) f2
  have g3:=E.cell (p:=⟨w.heap.size+1+1,3,none⟩) (fun h=>K h.symm) f3
  have g4:=E.cell (p:=⟨w.heap.size+1+1,4,none⟩) (fun h=>K h.symm) f4
  have gf:W.frozen? ⟨w.heap.size+1+1,3,none⟩=false:=(y6 (p:=⟨w.heap.size+1+1,3,none⟩) (E.block _ (World.block_lt_of_cell? w7 _ f3) (fun h=>K h.symm))).trans ff
  have p8:=(E.block w.heap.size (Array.getElem?_eq_some_iff.1 p7).1 (by omega)).trans p7
  have aj:Hid (zb r w W):=ai.out.trans E;have au:w.heap.size+1+1<w7.heap.size:=World.block_lt_of_cell? w7 _ f0;obtain ⟨G,A⟩:∃G,G=W.setCell ⟨w.heap.size+1+1,3,none⟩ v:=⟨_,rfl⟩;have aw:Hid (G=W.setCell ⟨w.heap.size+1+1,3,none⟩ v):=A;have x:∀k,k≠w.heap.size+1+1→G.heap[k]?=W.heap[k]?:=fun k hk=>by rw [A];exact Below.heap_setCell _ _ _ _ (by simpa using hk)
  have Y:W.heap.size≤G.heap.size:=by rw [A];simp
  have aa:Hid (Zg w7.heap.size G l v):=I.kept Y fun k hB _=>x k (by omega)
  have aq:Hid (zc r g o8 T ts G):=ah.keep (x r (by omega)) (x g (by omega))
  have an:Hid (zb r w G):=by rw [A];exact aj.out.setOther (by simp;omega) _
  have V:=(x w.heap.size (by omega)).trans p8
  have i0:G.cell? ⟨w.heap.size+1+1,0,none⟩=some (.int .i64 5):=by rw [A,World.cell?_setCell_other _ _ _ _ (by simp)];exact g0
  have i1:G.cell? ⟨w.heap.size+1+1,1,none⟩=some (.string (za t.s)):=by rw [A,World.cell?_setCell_other _ _ _ _ (by simp)];exact g1
  have i2:G.cell? ⟨w.heap.size+1+1,2,none⟩=some (.int .i64 0):=by rw [A,World.cell?_setCell_other _ _ _ _ (by simp)];exact g2
  have i3:G.cell? ⟨w.heap.size+1+1,3,none⟩=some v:=by rw [A];exact World.cell?_setCell_same _ _ _ g3
  have i4:G.cell? ⟨w.heap.size+1+1,4,none⟩=some (.int .i64 t.line):=by rw [A,World.cell?_setCell_other _ _ _ _ (by simp)];exact g4
  have q0:G.cell? ⟨w.heap.size,0,none⟩=some (.int .i64 0):=by simp only [World.cell?,V];rfl
  have q1:G.cell? ⟨w.heap.size,1,none⟩=some (.string ⟨#[]⟩):=by simp only [World.cell?,V];rfl
  have q2:G.cell? ⟨w.heap.size,2,none⟩=some (.int .i64 0):=by simp only [World.cell?,V];rfl
  have q3:G.cell? ⟨w.heap.size,3,none⟩=some (.slice none 0 0):=by simp only [World.cell?,V];rfl
  have q4:G.cell? ⟨w.heap.size,4,none⟩=some (.int .i64 0):=by simp only [World.cell?,V];rfl
  have qf:∀j,G.frozen? ⟨w.heap.size,j,none⟩=false:=fun j=>by simp only [World.frozen?,V];simp
  have al:∃a n c,v=.slice a n c:=by
   rcases I with ⟨-,rfl⟩ | ⟨_,_,_,rfl,_⟩
   ·exact ⟨_,_,_,rfl⟩
   ·exact ⟨_,_,_,rfl⟩
  obtain ⟨va,vn,vc,rfl⟩:=al;clear x I ah f0 f1 f2 f3 f4 ff E p8 g0 g1 g2 g4;have ar:=A.symm;clear A;go_wp2
  obtain ⟨z0,z1,z2,z3,z4⟩:=zo V (.int .i64 5) (.string (za t.s)) (.int .i64 0) (.slice va vn vc) (.int .i64 t.line);refine bodyPost_ret (v:=.agg #[.int .i64 5,.string (za t.s),.int .i64 0,.slice va vn vc,.int .i64 t.line]) (by simp [results,Tryz.results176,go_sem,z0,z1,z2,z3,z4]) rfl ⟨Zk an.out (Nat.le_refl _) _ _ _ _ _,_,o8,T,rfl,?_,?_⟩
  ·have I:Zg w7.heap.size (set5 G w.heap.size (.int .i64 5) (.string (za t.s)) (.int .i64 0) (.slice va vn vc) (.int .i64 t.line)) l (.slice va vn vc) :=
    aa.out.kept (by simp) fun k hB _=>zg _ _ _ _ _ _ _ (by omega)
   exact zM.of_row (I.mono (by omega)) 5 t.s 0 t.line
  ·exact aq.out.keep (zg _ _ _ _ _ _ _ (by omega)) (zg _ _ _ _ _ _ _ (by omega))
theorem zy.agg {S:Nat→Prop} {w:World} {x:Ex} {v:Value} (h:zy S w x v):∃(a:Int) (b:ByteArray) (c:Int) (d0:Option Addr) (d1 d2:Nat) (e:Int),v=.agg #[.int .i64 a,.string b,.int .i64 c,.slice d0 d1 d2,.int .i64 e]:=by
 cases h with
 | leaf=>exact ⟨_,_,_,_,_,_,_,rfl⟩
 | node=>exact ⟨_,_,_,_,_,_,_,rfl⟩
abbrev zA:Obj:=.cells #[.int .i64 0,.string ⟨#[]⟩,.int .i64 0,.slice none 0 0,.int .i64 0] 90
theorem VR (r g:Nat) (w:World) (res:PR Ex) (hr:r<w.heap.size) (hgw:g<w.heap.size)
  (hb:Calls Tryz.prog 98 #[.pointer (some ⟨r,0,none⟩),.int .i64 1] (w.alloc zA) (zi r g (w.alloc zA) res)) :
  Calls Tryz.prog 74 #[.pointer (some ⟨r,0,none⟩)] w (zi r g w res):=by
 go_enter Tryz.func74,Tryz.ntmps74
 go_wp2_with fail
 refine hb.mono ?_;clear hb;rintro e w1 ⟨z,h⟩;have J:zb r w w1:=((zb.refl r w).alloc _).trans z;rcases res with a | ⟨x,ts⟩
 ·obtain rfl:=h
  exact ⟨rfl,J,rfl⟩
 ·obtain ⟨v,o,D,rfl,I,A⟩:=h
  obtain ⟨a,b,c,G,H,E,e,rfl⟩:=I.agg;have K:(w.alloc zA).heap.size=w.heap.size+1:=by simp
  have y:w1.heap[w.heap.size]?=some zA:=(z.block w.heap.size (by omega) (by omega)).trans (World.alloc_heap_new w _)
  have U:w1.cell? ⟨w.heap.size,0,none⟩=some (.int .i64 0):=by simp only [World.cell?,y];rfl
  have Y:w1.cell? ⟨w.heap.size,1,none⟩=some (.string ⟨#[]⟩):=by simp only [World.cell?,y];rfl
  have V:w1.cell? ⟨w.heap.size,2,none⟩=some (.int .i64 0):=by simp only [World.cell?,y];rfl
  have Z:w1.cell? ⟨w.heap.size,3,none⟩=some (.slice none 0 0):=by simp only [World.cell?,y];rfl
  have X:w1.cell? ⟨w.heap.size,4,none⟩=some (.int .i64 0):=by simp only [World.cell?,y];rfl
  have W:∀j,w1.frozen? ⟨w.heap.size,j,none⟩=false:=fun j=>by simp only [World.frozen?,y];simp
  have R:Hid (zM (w.alloc zA).heap.size w1 x (.agg #[.int .i64 a,.string b,.int .i64 c,.slice G H E,.int .i64 e])):=I;have L:Hid (zc r g o D ts w1):=A;have S:Hid (zb r w w1):=J;clear z I A J;go_wp2
  obtain ⟨O,N,T,M,Q⟩:=zo y (.int .i64 a) (.string b) (.int .i64 c) (.slice G H E) (.int .i64 e);refine bodyPost_ret (v:=.agg #[.int .i64 a,.string b,.int .i64 c,.slice G H E,.int .i64 e]) (by simp [results,Tryz.results74,go_sem,O,N,T,M,Q]) rfl ⟨Zk S.out (Nat.le_refl _) _ _ _ _ _,_,o,D,rfl,?_,?_⟩
  ·exact (R.out.kept (w':=set5 w1 w.heap.size (.int .i64 a) (.string b) (.int .i64 c) (.slice G H E) (.int .i64 e)) (by simp) fun k hB _=>zg _ _ _ _ _ _ _ (by omega)).mono (by omega)
  ·exact L.out.keep (zg _ _ _ _ _ _ _ (by omega)) (zg _ _ _ _ _ _ _ (by omega))
end Go.Proofs.YtmbofhpmockmbaaGreatDoor
