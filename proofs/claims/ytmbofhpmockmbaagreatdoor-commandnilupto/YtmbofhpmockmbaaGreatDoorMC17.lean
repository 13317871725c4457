import Derived.Test.YtmbofhpmockmbaaGreatDoorMC16
namespace Go.Proofs.YtmbofhpmockmbaaGreatDoor
open Go.RowKit Go.Shelf
set_option maxHeartbeats 16000000
set_option maxRecDepth 100000
def vQ (t:Tk):PR (List Ex)→PR Ex
 | .error a=>.error a
 | .ok (l,ts)=>.ok (.mk 5 t.s 0 l t.line,ts)
theorem zb.setOther {r:Nat} {w w':World} (h:zb r w w') {p:Addr} (hp:w.heap.size≤p.block) (v:Value):zb r w (w'.setCell p v):=by
 have o:Below 0 w' (w'.setCell p v):=(Below.refl 0 w').setCell (p:=p) (Nat.zero_le _) v;exact ⟨o.os.trans h.os,o.tape.trans h.tape,o.output.trans h.output,Nat.le_trans h.size o.size,fun k hk hr=>(Below.heap_setCell _ _ _ _ (by omega)).trans (h.block k hk hr)⟩
theorem Yp {w w':World} {p:Addr} (h:w'.heap[p.block]?=w.heap[p.block]?):w'.frozen? p=w.frozen? p:=by
 simp only [World.frozen?,h]
theorem vd (r g o cap:Nat) (t u:Tk) (us:List Tk) (w:World) (res:PR (List Ex)) (h:zc r g o cap (t::u::us) w) (hk:t.k=1) (hu:zp u [40]=true)
  (hbr:∀w1 o1 cap1,zc r g o1 cap1 (u::us) w1→zb r w w1→Calls Tryz.prog 177 #[.pointer (some ⟨r,0,none⟩),.func (.func 74) #[.pointer (some ⟨r,0,none⟩)] #[]] w1 (yN r g w1 res)) :
  Calls Tryz.prog 176 #[.pointer (some ⟨r,0,none⟩)] w (zj r g w (vQ t res)):=by
 have ax:∀(fn:Fn) (first cap:Array Value) (w:World),(Instr.makeFunc fn first cap).run Tryz.prog w=.ok (.func fn first cap) w:=fun _ _ _ _=>rfl
 generalize hres:vQ t res=res';have hf:=YN;have hr:=h.lt.1;have aw:=h.lt.2;have h0:=h.alloc (.cells #[.int .i64 0,.string ⟨#[]⟩,.int .i64 0,.slice none 0 0,.int .i64 0] 90);have ch:=z8 r g o cap t (u::us) _ h0;obtain ⟨w2,K⟩:∃w2,w2=((w.alloc (.cells #[.int .i64 0,.string ⟨#[]⟩,.int .i64 0,.slice none 0 0,.int .i64 0] 90)).alloc (zF t)).alloc (.cells #[.int .i64 4,.string ⟨#[]⟩,.int .i64 0,.slice none 0 0,.int .i64 t.line] 90):=⟨_,rfl⟩;have h2:zc r g o cap (t::u::us) w2:=by rw [K];exact (h0.alloc _).alloc _
 have ab:Hid (zb r w w2):=by rw [K];exact (((zb.refl r w).alloc _).alloc _).alloc _
 have cn:=xW r g o cap t (u::us) w2 h2 (fun _=>by simp)
 simp only [hk,if_true] at cn;clear h h0 h2
 go_enter Tryz.func176,Tryz.ntmps176
 go_wp2_with fail
 refine ch.mono ?_;clear ch;rintro e w1 ⟨rfl,rfl⟩;simp only [Y2];go_wp2_with fail
 rw [←K];refine cn.mono ?_;clear cn;rintro e S ⟨T,rfl,h3⟩
 have n2:w2.heap[w.heap.size+1+1]?=some (.cells #[.int .i64 4,.string ⟨#[]⟩,.int .i64 0,.slice none 0 0,.int .i64 t.line] 90 (0,0)):=by
  have hx:=World.alloc_heap_new ((w.alloc (.cells #[.int .i64 0,.string ⟨#[]⟩,.int .i64 0,.slice none 0 0,.int .i64 0] 90)).alloc (zF t)) (.cells #[.int .i64 4,.string ⟨#[]⟩,.int .i64 0,.slice none 0 0,.int .i64 t.line] 90);rw [←K,show ((w.alloc (.cells #[.int .i64 0,.string ⟨#[]⟩,.int .i64 0,.slice none 0 0,.int .i64 0] 90)).alloc (zF t)).heap.size=w.heap.size+1+1 by simp] at hx
  exact hx
 have n0:w2.heap[w.heap.size]?=some (.cells #[.int .i64 0,.string ⟨#[]⟩,.int .i64 0,.slice none 0 0,.int .i64 0] 90 (0,0)):=by
  rw [K,Below.heap_alloc _ _ _ (by simp;omega),Below.heap_alloc _ _ _ (by simp)]
  exact World.alloc_heap_new _ _
 have I:=(T.block _ (Array.getElem?_eq_some_iff.1 n2).1 (by omega)).trans n2
 have Y:=(T.block _ (Array.getElem?_eq_some_iff.1 n0).1 (by omega)).trans n0
 have M:Hid (zb r w S):=ab.out.trans T;clear n2 n0 T K ab;have c0:S.cell? ⟨w.heap.size+1+1,0,none⟩=some (.int .i64 4):=by simp only [World.cell?,I];rfl
 have c1:S.cell? ⟨w.heap.size+1+1,1,none⟩=some (.string ⟨#[]⟩):=by simp only [World.cell?,I];rfl
 have c2:S.cell? ⟨w.heap.size+1+1,2,none⟩=some (.int .i64 0):=by simp only [World.cell?,I];rfl
 have c3:S.cell? ⟨w.heap.size+1+1,3,none⟩=some (.slice none 0 0):=by simp only [World.cell?,I];rfl
 have c4:S.cell? ⟨w.heap.size+1+1,4,none⟩=some (.int .i64 t.line):=by simp only [World.cell?,I];rfl
 have cf:S.frozen? ⟨w.heap.size+1+1,1,none⟩=false:=by simp only [World.frozen?,I];rfl
 obtain ⟨w4,z⟩:∃w4,w4=S.setCell ⟨w.heap.size+1+1,1,none⟩ (.string (za t.s)):=⟨_,rfl⟩;have d0:w4.cell? ⟨w.heap.size+1+1,0,none⟩=some (.int .i64 4):=by rw [z,World.cell?_setCell_other _ _ _ _ (by simp)];exact c0
 have d1:w4.cell? ⟨w.heap.size+1+1,1,none⟩=some (.string (za t.s)):=by rw [z];exact World.cell?_setCell_same _ _ _ c1
 have d2:w4.cell? ⟨w.heap.size+1+1,2,none⟩=some (.int .i64 0):=by rw [z,World.cell?_setCell_other _ _ _ _ (by simp)];exact c2
 have d3:w4.cell? ⟨w.heap.size+1+1,3,none⟩=some (.slice none 0 0):=by rw [z,World.cell?_setCell_other _ _ _ _ (by simp)];exact c3
 have d4:w4.cell? ⟨w.heap.size+1+1,4,none⟩=some (.int .i64 t.line):=by rw [z,World.cell?_setCell_other _ _ _ _ (by simp)];exact c4
 have y:∀k,k≠w.heap.size+1+1→w4.heap[k]?=S.heap[k]?:=fun k hk=>by rw [z];exact Below.heap_setCell _ _ _ _ (by simpa using hk)
 have h4:zc r g (o+5) (cap-1) (u::us) w4:=h3.keep (y r (by omega)) (y g (by omega))
 have ah:Hid (zb r w w4):=⟨by rw [z];exact M.out.os,by rw [z];exact M.out.tape,by rw [z];exact M.out.output,by rw [z];simpa using M.out.size,fun k hk hr=>(y k (by omega)).trans (M.out.block k hk hr)⟩
 have W:=(y w.heap.size (by omega)).trans Y
 have ci:=Ua r g (o+5) (cap-1) u us [40] w4 h4;rw [hu] at ci;have ad:Hid (S.setCell ⟨w.heap.size+1+1,1,none⟩ (.string (za t.s))=w4):=z.symm;obtain ⟨N,A⟩:∃N,N=(w4.alloc (zF u)).alloc (zF u):=⟨_,rfl⟩;rw [←A] at ci;have aj:Hid (zc r g (o+5) (cap-1) (u::us) N):=by rw [A];exact (h4.alloc _).alloc _
 have ao:Hid (zb r w N):=by rw [A];exact (ah.out.alloc _).alloc _
 have e0:N.cell? ⟨w.heap.size+1+1,0,none⟩=some (.int .i64 4):=by rw [A];exact ze (ze d0 _) _
 have e1:N.cell? ⟨w.heap.size+1+1,1,none⟩=some (.string (za t.s)):=by rw [A];exact ze (ze d1 _) _
 have e2:N.cell? ⟨w.heap.size+1+1,2,none⟩=some (.int .i64 0):=by rw [A];exact ze (ze d2 _) _
 have e3:N.cell? ⟨w.heap.size+1+1,3,none⟩=some (.slice none 0 0):=by rw [A];exact ze (ze d3 _) _
 have e4:N.cell? ⟨w.heap.size+1+1,4,none⟩=some (.int .i64 t.line):=by rw [A];exact ze (ze d4 _) _
 have aa:w.heap.size<w4.heap.size:=(Array.getElem?_eq_some_iff.1 W).1
 have p0:N.heap[w.heap.size]?=some (.cells #[.int .i64 0,.string ⟨#[]⟩,.int .i64 0,.slice none 0 0,.int .i64 0] 90 (0,0)):=by
  rw [A,Below.heap_alloc _ _ _ (by simp;omega),Below.heap_alloc _ _ _ aa];exact W
 have aq:N.frozen? ⟨w.heap.size+1+1,0,none⟩=false:=by
  have R:w4.frozen? ⟨w.heap.size+1+1,0,none⟩=false:=by rw [z,World.frozen?_setCell];simp only [World.frozen?,I];rfl
  have O:=World.block_lt_of_cell? w4 _ d0;rw [A];simp only [World.frozen?] at R ⊢;rw [Below.heap_alloc _ _ _ (by simp;simp at O;omega),Below.heap_alloc _ _ _ O];exact R
 have af:N.frozen? ⟨w.heap.size+1+1,3,none⟩=false:=by
  have R:w4.frozen? ⟨w.heap.size+1+1,3,none⟩=false:=by rw [z,World.frozen?_setCell];simp only [World.frozen?,I];rfl
  have O:=World.block_lt_of_cell? w4 _ d0;rw [A];simp only [World.frozen?] at R ⊢;rw [Below.heap_alloc _ _ _ (by simp;simp at O;omega),Below.heap_alloc _ _ _ O];exact R
 clear z y h3 h4 I Y W M ah d0 d1 d2 d3 d4 A aa;go_wp2_with fail
 rw [ad.out];refine ci.mono ?_;clear ci c0 c1 c2 c3 c4 cf;rintro e w6 ⟨rfl,rfl⟩;obtain ⟨w7,G⟩:∃w7,w7=w6.setCell ⟨w.heap.size+1+1,0,none⟩ (.int .i64 5):=⟨_,rfl⟩;have ap:Hid (w6.setCell ⟨w.heap.size+1+1,0,none⟩ (.int .i64 5)=w7):=G.symm;have y:∀k,k≠w.heap.size+1+1→w7.heap[k]?=w6.heap[k]?:=fun k hk=>by rw [G];exact Below.heap_setCell _ _ _ _ (by simpa using hk)
 have h7:zc r g (o+5) (cap-1) (u::us) w7:=aj.out.keep (y r (by omega)) (y g (by omega))
 have k7:zb r w w7:=by rw [G];exact ao.out.setOther (by simp;omega) _
 have ai:Hid (zb r w w7):=k7;have cb:=hbr w7 _ _ h7 k7;have f0:w7.cell? ⟨w.heap.size+1+1,0,none⟩=some (.int .i64 5):=by rw [G];exact World.cell?_setCell_same _ _ _ e0
 have f1:w7.cell? ⟨w.heap.size+1+1,1,none⟩=some (.string (za t.s)):=by rw [G,World.cell?_setCell_other _ _ _ _ (by simp)];exact e1
 have f2:w7.cell? ⟨w.heap.size+1+1,2,none⟩=some (.int .i64 0):=by rw [G,World.cell?_setCell_other _ _ _ _ (by simp)];exact e2
 have f3:w7.cell? ⟨w.heap.size+1+1,3,none⟩=some (.slice none 0 0):=by rw [G,World.cell?_setCell_other _ _ _ _ (by simp)];exact e3
 have f4:w7.cell? ⟨w.heap.size+1+1,4,none⟩=some (.int .i64 t.line):=by rw [G,World.cell?_setCell_other _ _ _ _ (by simp)];exact e4
 have ff:w7.frozen? ⟨w.heap.size+1+1,3,none⟩=false:=by rw [G,World.frozen?_setCell];exact af
 have p7:=(y w.heap.size (by omega)).trans p0
 clear hbr h7 k7 G y p0;go_wp2_with fail
 rw [ap.out];refine cb.mono ?_;clear cb e0 e1 e2 e3 e4 aq af;rintro e X ⟨E,Q⟩;subst hres;rcases res with a | ⟨l,ts⟩
 ·obtain rfl:=Q
  exact ⟨rfl,ai.out.trans E,rfl⟩
 ·obtain ⟨v,o8,U,rfl,J,ag⟩:=Q
  have L:r≠w.heap.size+1+1:=by omega
  have g0:=E.cell (p:=⟨w.heap.size+1+1,0,none⟩) (fun h=>L h.symm) f0
  have g1:=E.cell (p:=⟨w.heap.size+1+1,1,none⟩) (fun h=>L h.symm) f1
  have g2:=E.cell (p:=⟨w.heap.size+1+1,2,none⟩) (fun h=>L h.symm) f2
  have g3:=E.cell (p:=⟨w.heap.size+1+1,3,none⟩) (fun h=>L h.symm) f3
  have g4:=E.cell (p:=⟨w.heap.size+1+1,4,none⟩) (fun h=>L h.symm) f4
  have gf:X.frozen? ⟨w.heap.size+1+1,3,none⟩=false:=(Yp (p:=⟨w.heap.size+1+1,3,none⟩) (E.block _ (World.block_lt_of_cell? w7 _ f3) (fun h=>L h.symm))).trans ff
  have p8:=(E.block w.heap.size (Array.getElem?_eq_some_iff.1 p7).1 (by omega)).trans p7
  have am:Hid (zb r w X):=ai.out.trans E;have au:w.heap.size+1+1<w7.heap.size:=World.block_lt_of_cell? w7 _ f0;obtain ⟨H,D⟩:∃H,H=X.setCell ⟨w.heap.size+1+1,3,none⟩ v:=⟨_,rfl⟩;have av:Hid (H=X.setCell ⟨w.heap.size+1+1,3,none⟩ v):=D;have y:∀k,k≠w.heap.size+1+1→H.heap[k]?=X.heap[k]?:=fun k hk=>by rw [D];exact Below.heap_setCell _ _ _ _ (by simpa using hk)
  have Z:X.heap.size≤H.heap.size:=by rw [D];simp
  have ae:Hid (Zn w7.heap.size H l v):=J.kept Z fun k hB _=>y k (by omega)
  have ak:Hid (zc r g o8 U ts H):=ag.keep (y r (by omega)) (y g (by omega))
  have al:Hid (zb r w H):=by rw [D];exact am.out.setOther (by simp;omega) _
  have V:=(y w.heap.size (by omega)).trans p8
  have i0:H.cell? ⟨w.heap.size+1+1,0,none⟩=some (.int .i64 5):=by rw [D,World.cell?_setCell_other _ _ _ _ (by simp)];exact g0
  have i1:H.cell? ⟨w.heap.size+1+1,1,none⟩=some (.string (za t.s)):=by rw [D,World.cell?_setCell_other _ _ _ _ (by simp)];exact g1
  have i2:H.cell? ⟨w.heap.size+1+1,2,none⟩=some (.int .i64 0):=by rw [D,World.cell?_setCell_other _ _ _ _ (by simp)];exact g2
  have i3:H.cell? ⟨w.heap.size+1+1,3,none⟩=some v:=by rw [D];exact World.cell?_setCell_same _ _ _ g3
  have i4:H.cell? ⟨w.heap.size+1+1,4,none⟩=some (.int .i64 t.line):=by rw [D,World.cell?_setCell_other _ _ _ _ (by simp)];exact g4
  have q0:H.cell? ⟨w.heap.size,0,none⟩=some (.int .i64 0):=by simp only [World.cell?,V];rfl
  have q1:H.cell? ⟨w.heap.size,1,none⟩=some (.string ⟨#[]⟩):=by simp only [World.cell?,V];rfl
  have q2:H.cell? ⟨w.heap.size,2,none⟩=some (.int .i64 0):=by simp only [World.cell?,V];rfl
  have q3:H.cell? ⟨w.heap.size,3,none⟩=some (.slice none 0 0):=by simp only [World.cell?,V];rfl
  have q4:H.cell? ⟨w.heap.size,4,none⟩=some (.int .i64 0):=by simp only [World.cell?,V];rfl
  have qf:∀j,H.frozen? ⟨w.heap.size,j,none⟩=false:=fun j=>by simp only [World.frozen?,V];simp
  have an:∃a n c,v=.slice a n c:=by
   rcases J with ⟨-,rfl⟩ | ⟨_,_,_,rfl,_⟩
   ·exact ⟨_,_,_,rfl⟩
   ·exact ⟨_,_,_,rfl⟩
  obtain ⟨va,vn,vc,rfl⟩:=an;clear y J ag f0 f1 f2 f3 f4 ff E p8 g0 g1 g2 g4;have ar:=D.symm;clear D;go_wp2
  obtain ⟨z0,z1,z2,z3,z4⟩:=zq V (.int .i64 5) (.string (za t.s)) (.int .i64 0) (.slice va vn vc) (.int .i64 t.line);refine bodyPost_ret (v:=.agg #[.int .i64 5,.string (za t.s),.int .i64 0,.slice va vn vc,.int .i64 t.line]) (by simp [results,Tryz.results176,go_sem,z0,z1,z2,z3,z4]) rfl ⟨Zu al.out (Nat.le_refl _) _ _ _ _ _,_,o8,U,rfl,?_,?_⟩
  ·have J:Zn w7.heap.size (set5 H w.heap.size (.int .i64 5) (.string (za t.s)) (.int .i64 0) (.slice va vn vc) (.int .i64 t.line)) l (.slice va vn vc) :=
    ae.out.kept (by simp) fun k hB _=>zh _ _ _ _ _ _ _ (by omega)
   exact zN.of_row (J.mono (by omega)) 5 t.s 0 t.line
  ·exact ak.out.keep (zh _ _ _ _ _ _ _ (by omega)) (zh _ _ _ _ _ _ _ (by omega))
theorem zA.agg {S:Nat→Prop} {w:World} {x:Ex} {v:Value} (h:zA S w x v):∃(a:Int) (b:ByteArray) (c:Int) (d0:Option Addr) (d1 d2:Nat) (e:Int),v=.agg #[.int .i64 a,.string b,.int .i64 c,.slice d0 d1 d2,.int .i64 e]:=by
 cases h with
 | leaf=>exact ⟨_,_,_,_,_,_,_,rfl⟩
 | node=>exact ⟨_,_,_,_,_,_,_,rfl⟩
abbrev zC:Obj:=.cells #[.int .i64 0,.string ⟨#[]⟩,.int .i64 0,.slice none 0 0,.int .i64 0] 90
theorem Uc (r g:Nat) (w:World) (res:PR Ex) (hr:r<w.heap.size) (hgw:g<w.heap.size)
  (hb:Calls Tryz.prog 98 #[.pointer (some ⟨r,0,none⟩),.int .i64 1] (w.alloc zC) (zj r g (w.alloc zC) res)) :
  Calls Tryz.prog 74 #[.pointer (some ⟨r,0,none⟩)] w (zj r g w res):=by
 go_enter Tryz.func74,Tryz.ntmps74
 go_wp2_with fail
 refine hb.mono ?_;clear hb;rintro e w1 ⟨A,y⟩;have J:zb r w w1:=((zb.refl r w).alloc _).trans A;rcases res with a | ⟨x,ts⟩
 ·obtain rfl:=y
  exact ⟨rfl,J,rfl⟩
 ·obtain ⟨v,o,E,rfl,K,D⟩:=y
  obtain ⟨a,b,c,H,G,I,e,rfl⟩:=K.agg;have M:(w.alloc zC).heap.size=w.heap.size+1:=by simp
  have z:w1.heap[w.heap.size]?=some zC:=(A.block w.heap.size (by omega) (by omega)).trans (World.alloc_heap_new w _)
  have q0:w1.cell? ⟨w.heap.size,0,none⟩=some (.int .i64 0):=by simp only [World.cell?,z];rfl
  have X:w1.cell? ⟨w.heap.size,1,none⟩=some (.string ⟨#[]⟩):=by simp only [World.cell?,z];rfl
  have Y:w1.cell? ⟨w.heap.size,2,none⟩=some (.int .i64 0):=by simp only [World.cell?,z];rfl
  have V:w1.cell? ⟨w.heap.size,3,none⟩=some (.slice none 0 0):=by simp only [World.cell?,z];rfl
  have Z:w1.cell? ⟨w.heap.size,4,none⟩=some (.int .i64 0):=by simp only [World.cell?,z];rfl
  have W:∀j,w1.frozen? ⟨w.heap.size,j,none⟩=false:=fun j=>by simp only [World.frozen?,z];simp
  have Q:Hid (zN (w.alloc zC).heap.size w1 x (.agg #[.int .i64 a,.string b,.int .i64 c,.slice H G I,.int .i64 e])):=K;have N:Hid (zc r g o E ts w1):=D;have R:Hid (zb r w w1):=J;clear A K D J;go_wp2
  obtain ⟨U,T,O,S,L⟩:=zq z (.int .i64 a) (.string b) (.int .i64 c) (.slice H G I) (.int .i64 e);refine bodyPost_ret (v:=.agg #[.int .i64 a,.string b,.int .i64 c,.slice H G I,.int .i64 e]) (by simp [results,Tryz.results74,go_sem,U,T,O,S,L]) rfl ⟨Zu R.out (Nat.le_refl _) _ _ _ _ _,_,o,E,rfl,?_,?_⟩
  ·exact (Q.out.kept (w':=set5 w1 w.heap.size (.int .i64 a) (.string b) (.int .i64 c) (.slice H G I) (.int .i64 e)) (by simp) fun k hB _=>zh _ _ _ _ _ _ _ (by omega)).mono (by omega)
  ·exact N.out.keep (zh _ _ _ _ _ _ _ (by omega)) (zh _ _ _ _ _ _ _ (by omega))
end Go.Proofs.YtmbofhpmockmbaaGreatDoor
