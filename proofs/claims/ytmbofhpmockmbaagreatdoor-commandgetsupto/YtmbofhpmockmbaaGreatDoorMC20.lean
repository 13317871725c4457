import Derived.Test.YtmbofhpmockmbaaGreatDoorMC19
namespace Go.Proofs.YtmbofhpmockmbaaGreatDoor
open Go.RowKit Go.Shelf
set_option maxHeartbeats 16000000
set_option maxRecDepth 100000
def Qb (t:Tk):Prop:=t.k=1→t.s.length≤1099511627776
def zk:List Tk→Prop
 | []=>False
 | [t]=>t.k=0
 | t::ts=>t.k≠0∧Qb t∧zk ts
theorem zk.ne {ts:List Tk} (h:zk ts):ts≠[]:=by cases ts <;> simp [zk] at h ⊢
theorem zk.tail {t:Tk} {ts:List Tk} (h:zk (t::ts)) (hk:t.k≠0):zk ts:=by
 cases ts with
 | nil=>exact absurd h hk
 | cons u us=>exact h.2.2
theorem zi {t:Tk} {s:List UInt8} (h:zq t s=true):t.k≠0:=by
 unfold zq at h
 intro o
 simp [o] at h
theorem zk.cons {ts:List Tk} (h:zk ts):∃t us,ts=t::us:=by
 cases ts with
 | nil=>exact absurd h (by simp [zk])
 | cons t us=>exact ⟨t,us,rfl⟩
theorem Z2 {f k least:Nat} {ts:List Tk} {r:PR Ex} (h:zd f least ts=some r):zd (f+k) least ts=some r:=by
 induction k with
 | zero=>exact h
 | succ k ih=>exact (Vt (f+k)).1 _ _ _ ih
theorem yu {f f' least:Nat} {ts:List Tk} {r r':PR Ex} (h:zd f least ts=some r) (h':zd f' least ts=some r'):r=r':=by
 have a:=Z2 (k:=f') h;have b:=Z2 (k:=f) h';rw [Nat.add_comm] at b;exact Option.some.inj (a.symm.trans b)
def zO (S:Nat→Prop) (w:World) (l:List Ex) (v:Value):Prop :=
 (l=[]∧v=.slice none 0 0)∨∃(g cap:Nat) (us:List (List Value)),v=.slice (some ⟨g,0,none⟩) l.length cap∧l≠[]∧us.length=l.length∧S g∧g<w.heap.size∧l.length≤cap∧cap≤maxLen ∧
  (∀j u,us.flatten[j]?=some u→w.cell? ⟨g,j,none⟩=some u)∧(∀c∈us,c.length=5)∧∀(j:Nat) (x:Ex) (c:List Value),l[j]?=some x→us[j]?=some c→zC S w x (.agg c.toArray)
abbrev Zz (B:Nat) (w:World) (l:List Ex) (v:Value):Prop:=zO (fun k=>B≤k) w l v
theorem zO.kept {S:Nat→Prop} {w w':World} {l:List Ex} {v:Value} (h:zO S w l v) (hs:w.heap.size≤w'.heap.size) (hb:∀k,S k→k<w.heap.size→w'.heap[k]?=w.heap[k]?):zO S w' l v:=by
 rcases h with h | ⟨g,A,J,K,D,z,E,G,I,L,o,y,H⟩
 ·exact .inl h
 ·refine .inr ⟨g,A,J,K,D,z,E,Nat.lt_of_lt_of_le G hs,I,L,fun j u hj=>?_,y,fun j x c hx hc'=>zC.kept (H j x c hx hc') hs hb⟩
  rw [World.cell?_of_block (hb g E G)];exact o j u hj
theorem zC.of_row {S:Nat→Prop} {w:World} {l:List Ex} {v:Value} (h:zO S w l v) (k:Nat) (s:List UInt8) (n:Int) (line:Nat):zC S w (.mk k s n l line) (.agg #[.int .i64 k,.string (za s),.int .i64 n,v,.int .i64 line]):=by
 rcases h with ⟨rfl,rfl⟩ | ⟨g,A,H,rfl,D,z,I,J,G,K,o,y,E⟩
 ·exact .leaf k s n line
 ·exact .node k s n l line g A H D z I J G K o y E
theorem zO.wide {S S':Nat→Prop} {w:World} {l:List Ex} {v:Value} (h:zO S w l v) (hS:∀k,S k→S' k):zO S' w l v:=by
 rcases h with h | ⟨g,A,H,K,D,z,I,J,G,L,o,y,E⟩
 ·exact .inl h
 ·exact .inr ⟨g,A,H,K,D,z,hS _ I,J,G,L,o,y,fun j x c hx hc'=>zC.wide (E j x c hx hc') hS⟩
theorem Zz.kept {B:Nat} {w w':World} {l:List Ex} {v:Value} (h:Zz B w l v) (hs:w.heap.size≤w'.heap.size) (hb:∀k,B≤k→k<w.heap.size→w'.heap[k]?=w.heap[k]?):Zz B w' l v:=zO.kept h hs hb
theorem zX.of_row {B:Nat} {w:World} {l:List Ex} {v:Value} (h:Zz B w l v) (k:Nat) (s:List UInt8) (n:Int) (line:Nat):zX B w (.mk k s n l line) (.agg #[.int .i64 k,.string (za s),.int .i64 n,v,.int .i64 line]):=zC.of_row h k s n line
theorem zX.mono {B B':Nat} {w:World} {x:Ex} {v:Value} (h:zX B w x v) (hb:B'≤B):zX B' w x v:=zC.wide h fun _ hk=>Nat.le_trans hb hk
theorem Zz.mono {B B':Nat} {w:World} {l:List Ex} {v:Value} (h:Zz B w l v) (hb:B'≤B):Zz B' w l v:=zO.wide h fun _ hk=>Nat.le_trans hb hk
def zl (r g:Nat) (w:World) (res:PR Ex) (e:Ending) (w':World):Prop :=
 zb r w w'∧match res with
  | .error a=>e=Zv a
  | .ok (x,ts)=>∃v o cap,e=.returned v∧zX w.heap.size w' x v∧zc r g o cap ts w'
def Yl (r g:Nat) (w:World) (res:PR (List Ex)) (e:Ending) (w':World):Prop :=
 zb r w w'∧match res with
  | .error a=>e=Zv a
  | .ok (l,ts)=>∃v o cap,e=.returned v∧Zz w.heap.size w' l v∧zc r g o cap ts w'
theorem zb.cell {r:Nat} {w w':World} (h:zb r w w') {p:Addr} {v:Value} (hp:p.block≠r) (hc:w.cell? p=some v):w'.cell? p=some v:=by
 rw [World.cell?_of_block (h.block p.block (World.block_lt_of_cell? w _ hc) hp)];exact hc
abbrev set5 (w:World) (N:Nat) (a b c d e:Value):World:=((((w.setCell ⟨N,0,none⟩ a).setCell ⟨N,1,none⟩ b).setCell ⟨N,2,none⟩ c).setCell ⟨N,3,none⟩ d).setCell ⟨N,4,none⟩ e
theorem zr {w:World} {N:Nat} {x0 x1 x2 x3 x4:Value} {ty:TypeId} (h:w.heap[N]?=some (.cells #[x0,x1,x2,x3,x4] ty (0,0))) (a b c d e:Value) :
  (set5 w N a b c d e).cell? ⟨N,0,none⟩=some a∧(set5 w N a b c d e).cell? ⟨N,1,none⟩=some b∧(set5 w N a b c d e).cell? ⟨N,2,none⟩=some c∧(set5 w N a b c d e).cell? ⟨N,3,none⟩=some d∧(set5 w N a b c d e).cell? ⟨N,4,none⟩=some e:=by
 have A:w.cell? ⟨N,0,none⟩=some x0:=by simp only [World.cell?,h];rfl
 have D:w.cell? ⟨N,1,none⟩=some x1:=by simp only [World.cell?,h];rfl
 have y:w.cell? ⟨N,2,none⟩=some x2:=by simp only [World.cell?,h];rfl
 have z:w.cell? ⟨N,3,none⟩=some x3:=by simp only [World.cell?,h];rfl
 have o:w.cell? ⟨N,4,none⟩=some x4:=by simp only [World.cell?,h];rfl
 refine ⟨?_,?_,?_,?_,?_⟩
 ·rw [World.cell?_setCell_other _ _ _ _ (by simp),World.cell?_setCell_other _ _ _ _ (by simp),World.cell?_setCell_other _ _ _ _ (by simp),World.cell?_setCell_other _ _ _ _ (by simp)]
  exact World.cell?_setCell_same _ _ _ A
 ·rw [World.cell?_setCell_other _ _ _ _ (by simp),World.cell?_setCell_other _ _ _ _ (by simp),World.cell?_setCell_other _ _ _ _ (by simp)]
  exact World.cell?_setCell_same _ _ _ ((World.cell?_setCell_other _ _ _ _ (by simp)).trans D)
 ·rw [World.cell?_setCell_other _ _ _ _ (by simp),World.cell?_setCell_other _ _ _ _ (by simp)]
  exact World.cell?_setCell_same _ _ _ ((World.cell?_setCell_other _ _ _ _ (by simp)).trans ((World.cell?_setCell_other _ _ _ _ (by simp)).trans y))
 ·rw [World.cell?_setCell_other _ _ _ _ (by simp)]
  exact World.cell?_setCell_same _ _ _ ((World.cell?_setCell_other _ _ _ _ (by simp)).trans ((World.cell?_setCell_other _ _ _ _ (by simp)).trans ((World.cell?_setCell_other _ _ _ _ (by simp)).trans z)))
 ·exact World.cell?_setCell_same _ _ _ ((World.cell?_setCell_other _ _ _ _ (by simp)).trans ((World.cell?_setCell_other _ _ _ _ (by simp)).trans ((World.cell?_setCell_other _ _ _ _ (by simp)).trans ((World.cell?_setCell_other _ _ _ _ (by simp)).trans o))))
theorem zj (w:World) (N:Nat) (a b c d e:Value) {k:Nat} (hk:k≠N):(set5 w N a b c d e).heap[k]?=w.heap[k]?:=by
 rw [Below.heap_setCell _ _ _ _ (by simpa using hk),Below.heap_setCell _ _ _ _ (by simpa using hk),Below.heap_setCell _ _ _ _ (by simpa using hk),Below.heap_setCell _ _ _ _ (by simpa using hk),Below.heap_setCell _ _ _ _ (by simpa using hk)]
theorem ZF {r:Nat} {w0 w:World} {N:Nat} (h:zb r w0 w) (hN:w0.heap.size≤N) (a b c d e:Value):zb r w0 (set5 w N a b c d e):=by
 have o:Below 0 w (set5 w N a b c d e):=(((((Below.refl 0 w).setCell (p:=⟨N,0,none⟩) (Nat.zero_le _) a).setCell (p:=⟨N,1,none⟩) (Nat.zero_le _) b).setCell (p:=⟨N,2,none⟩) (Nat.zero_le _) c).setCell (p:=⟨N,3,none⟩) (Nat.zero_le _) d).setCell (p:=⟨N,4,none⟩) (Nat.zero_le _) e;exact ⟨o.os.trans h.os,o.tape.trans h.tape,o.output.trans h.output,Nat.le_trans h.size o.size,fun k hk hr=>(zj w N a b c d e (by omega)).trans (h.block k hk hr)⟩
theorem vL (r g o cap:Nat) (t u:Tk) (us:List Tk) (w:World) (h:zc r g o cap (t::u::us) w) (hk:t.k=1) (hu:zq u [40]=false) :
  Calls Tryz.prog 176 #[.pointer (some ⟨r,0,none⟩)] w (zl r g w (.ok (.mk 4 t.s 0 [] t.line,u::us))):=by
 have hf:=xD;have hr:=h.lt.1;have ab:=h.lt.2;have X:=h.alloc (.cells #[.int .i64 0,.string ⟨#[]⟩,.int .i64 0,.slice none 0 0,.int .i64 0] 90);have ch:=Zk r g o cap t (u::us) _ X;obtain ⟨w2,E⟩:∃w2,w2=((w.alloc (.cells #[.int .i64 0,.string ⟨#[]⟩,.int .i64 0,.slice none 0 0,.int .i64 0] 90)).alloc (zJ t)).alloc (.cells #[.int .i64 4,.string ⟨#[]⟩,.int .i64 0,.slice none 0 0,.int .i64 t.line] 90):=⟨_,rfl⟩;have h2:zc r g o cap (t::u::us) w2:=by rw [E];exact (X.alloc _).alloc _
 have Q:Hid (zb r w w2):=by rw [E];exact (((zb.refl r w).alloc _).alloc _).alloc _
 have Z:=XP r g o cap t (u::us) w2 h2 (fun _=>by simp)
 simp only [hk,if_true] at Z;clear h X h2
 go_enter Tryz.func176,Tryz.ntmps176
 go_wp2_with fail
 refine ch.mono ?_;clear ch;rintro e w1 ⟨rfl,rfl⟩;simp only [xT];go_wp2_with fail
 rw [←E];refine Z.mono ?_;clear Z;rintro e H ⟨J,rfl,h3⟩
 have n2:w2.heap[w.heap.size+1+1]?=some (.cells #[.int .i64 4,.string ⟨#[]⟩,.int .i64 0,.slice none 0 0,.int .i64 t.line] 90 (0,0)):=by
  have hx:=World.alloc_heap_new ((w.alloc (.cells #[.int .i64 0,.string ⟨#[]⟩,.int .i64 0,.slice none 0 0,.int .i64 0] 90)).alloc (zJ t)) (.cells #[.int .i64 4,.string ⟨#[]⟩,.int .i64 0,.slice none 0 0,.int .i64 t.line] 90);rw [←E,show ((w.alloc (.cells #[.int .i64 0,.string ⟨#[]⟩,.int .i64 0,.slice none 0 0,.int .i64 0] 90)).alloc (zJ t)).heap.size=w.heap.size+1+1 by simp] at hx
  exact hx
 have W:w2.heap[w.heap.size]?=some (.cells #[.int .i64 0,.string ⟨#[]⟩,.int .i64 0,.slice none 0 0,.int .i64 0] 90 (0,0)):=by
  rw [E,Below.heap_alloc _ _ _ (by simp;omega),Below.heap_alloc _ _ _ (by simp)]
  exact World.alloc_heap_new _ _
 have D:=(J.block _ (Array.getElem?_eq_some_iff.1 n2).1 (by omega)).trans n2
 have R:=(J.block _ (Array.getElem?_eq_some_iff.1 W).1 (by omega)).trans W
 have G:Hid (zb r w H):=Q.out.trans J;clear n2 W J E Q;have c0:H.cell? ⟨w.heap.size+1+1,0,none⟩=some (.int .i64 4):=by simp only [World.cell?,D];rfl
 have c1:H.cell? ⟨w.heap.size+1+1,1,none⟩=some (.string ⟨#[]⟩):=by simp only [World.cell?,D];rfl
 have c2:H.cell? ⟨w.heap.size+1+1,2,none⟩=some (.int .i64 0):=by simp only [World.cell?,D];rfl
 have c3:H.cell? ⟨w.heap.size+1+1,3,none⟩=some (.slice none 0 0):=by simp only [World.cell?,D];rfl
 have c4:H.cell? ⟨w.heap.size+1+1,4,none⟩=some (.int .i64 t.line):=by simp only [World.cell?,D];rfl
 have cf:H.frozen? ⟨w.heap.size+1+1,1,none⟩=false:=by simp only [World.frozen?,D];rfl
 obtain ⟨w4,y⟩:∃w4,w4=H.setCell ⟨w.heap.size+1+1,1,none⟩ (.string (za t.s)):=⟨_,rfl⟩;have d0:w4.cell? ⟨w.heap.size+1+1,0,none⟩=some (.int .i64 4):=by rw [y,World.cell?_setCell_other _ _ _ _ (by simp)];exact c0
 have d1:w4.cell? ⟨w.heap.size+1+1,1,none⟩=some (.string (za t.s)):=by rw [y];exact World.cell?_setCell_same _ _ _ c1
 have d2:w4.cell? ⟨w.heap.size+1+1,2,none⟩=some (.int .i64 0):=by rw [y,World.cell?_setCell_other _ _ _ _ (by simp)];exact c2
 have d3:w4.cell? ⟨w.heap.size+1+1,3,none⟩=some (.slice none 0 0):=by rw [y,World.cell?_setCell_other _ _ _ _ (by simp)];exact c3
 have d4:w4.cell? ⟨w.heap.size+1+1,4,none⟩=some (.int .i64 t.line):=by rw [y,World.cell?_setCell_other _ _ _ _ (by simp)];exact c4
 have z:∀k,k≠w.heap.size+1+1→w4.heap[k]?=H.heap[k]?:=fun k hk=>by rw [y];exact Below.heap_setCell _ _ _ _ (by simpa using hk)
 have h4:zc r g (o+5) (cap-1) (u::us) w4:=h3.keep (z r (by omega)) (z g (by omega))
 have U:Hid (zb r w w4):=⟨by rw [y];exact G.out.os,by rw [y];exact G.out.tape,by rw [y];exact G.out.output,by rw [y];simpa using G.out.size,fun k hk hr=>(z k (by omega)).trans (G.out.block k hk hr)⟩
 have L:=(z w.heap.size (by omega)).trans R
 have V:=ql r g (o+5) (cap-1) u us [40] w4 h4;rw [hu] at V;have T:Hid (H.setCell ⟨w.heap.size+1+1,1,none⟩ (.string (za t.s))=w4):=y.symm;obtain ⟨I,A⟩:∃I,I=(w4.alloc (zJ u)).alloc (zJ u):=⟨_,rfl⟩;rw [←A] at V;have Y:Hid (zc r g (o+5) (cap-1) (u::us) I):=by rw [A];exact (h4.alloc _).alloc _
 have aa:Hid (zb r w I):=by rw [A];exact (U.out.alloc _).alloc _
 have e0:I.cell? ⟨w.heap.size+1+1,0,none⟩=some (.int .i64 4):=by rw [A];exact zg (zg d0 _) _
 have e1:I.cell? ⟨w.heap.size+1+1,1,none⟩=some (.string (za t.s)):=by rw [A];exact zg (zg d1 _) _
 have e2:I.cell? ⟨w.heap.size+1+1,2,none⟩=some (.int .i64 0):=by rw [A];exact zg (zg d2 _) _
 have e3:I.cell? ⟨w.heap.size+1+1,3,none⟩=some (.slice none 0 0):=by rw [A];exact zg (zg d3 _) _
 have e4:I.cell? ⟨w.heap.size+1+1,4,none⟩=some (.int .i64 t.line):=by rw [A];exact zg (zg d4 _) _
 have O:w.heap.size<w4.heap.size:=(Array.getElem?_eq_some_iff.1 L).1
 have K:I.heap[w.heap.size]?=some (.cells #[.int .i64 0,.string ⟨#[]⟩,.int .i64 0,.slice none 0 0,.int .i64 0] 90 (0,0)):=by
  rw [A,Below.heap_alloc _ _ _ (by simp;omega),Below.heap_alloc _ _ _ O];exact L
 clear y z h3 h4 D R L G U d0 d1 d2 d3 d4 A O;go_wp2_with fail
 rw [T.out];refine V.mono ?_;clear V c0 c1 c2 c3 c4 cf;rintro e M ⟨rfl,rfl⟩;have q0:M.cell? ⟨w.heap.size,0,none⟩=some (.int .i64 0):=by simp only [World.cell?,K];rfl
 have q1:M.cell? ⟨w.heap.size,1,none⟩=some (.string ⟨#[]⟩):=by simp only [World.cell?,K];rfl
 have q2:M.cell? ⟨w.heap.size,2,none⟩=some (.int .i64 0):=by simp only [World.cell?,K];rfl
 have q3:M.cell? ⟨w.heap.size,3,none⟩=some (.slice none 0 0):=by simp only [World.cell?,K];rfl
 have q4:M.cell? ⟨w.heap.size,4,none⟩=some (.int .i64 0):=by simp only [World.cell?,K];rfl
 have qf:∀j,M.frozen? ⟨w.heap.size,j,none⟩=false:=fun j=>by simp only [World.frozen?,K];simp
 go_wp2
 obtain ⟨z0,z1,z2,z3,z4⟩:=zr K (.int .i64 4) (.string (za t.s)) (.int .i64 0) (.slice none 0 0) (.int .i64 t.line);refine bodyPost_ret (v:=.agg #[.int .i64 4,.string (za t.s),.int .i64 0,.slice none 0 0,.int .i64 t.line]) (by simp [results,Tryz.results176,go_sem,z0,z1,z2,z3,z4]) rfl ⟨ZF aa.out (Nat.le_refl _) _ _ _ _ _,_,o+5,cap-1,rfl,.leaf 4 t.s 0 t.line,?_⟩
 exact Y.out.keep (zj _ _ _ _ _ _ _ (by omega)) (zj _ _ _ _ _ _ _ (by omega))
end Go.Proofs.YtmbofhpmockmbaaGreatDoor
