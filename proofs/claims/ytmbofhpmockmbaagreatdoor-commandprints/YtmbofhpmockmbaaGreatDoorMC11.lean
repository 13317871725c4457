import Derived.Test.YtmbofhpmockmbaaGreatDoorMC10
namespace Go.Proofs.YtmbofhpmockmbaaGreatDoor
open Go.RowKit Go.Shelf
set_option maxHeartbeats 16000000
set_option maxRecDepth 100000
def NmT (t:Tk):Prop:=t.k=1→t.s.length≤1099511627776
def zq:List Tk→Prop
 | []=>False
 | [t]=>t.k=0
 | t::ts=>t.k≠0∧NmT t∧zq ts
theorem zq.ne {ts:List Tk} (h:zq ts):ts≠[]:=by cases ts <;> simp [zq] at h ⊢
theorem zq.tail {t:Tk} {ts:List Tk} (h:zq (t::ts)) (hk:t.k≠0):zq ts:=by
 cases ts with
 | nil=>exact absurd h hk
 | cons u us=>exact h.2.2
theorem zm {t:Tk} {s:List UInt8} (h:zk t s=true):t.k≠0:=by
 unfold zk at h
 intro e
 simp [e] at h
theorem zq.cons {ts:List Tk} (h:zq ts):∃t us,ts=t::us:=by
 cases ts with
 | nil=>exact absurd h (by simp [zq])
 | cons t us=>exact ⟨t,us,rfl⟩
theorem yv {f k least:Nat} {ts:List Tk} {r:PR Ex} (h:zg f least ts=some r):zg (f+k) least ts=some r:=by
 induction k with
 | zero=>exact h
 | succ k ih=>exact (uY (f+k)).1 _ _ _ ih
theorem Yc {f f' least:Nat} {ts:List Tk} {r r':PR Ex} (h:zg f least ts=some r) (h':zg f' least ts=some r'):r=r':=by
 have a:=yv (k:=f') h;have b:=yv (k:=f) h';rw [Nat.add_comm] at b;exact Option.some.inj (a.symm.trans b)
def zI (S:Nat→Prop) (w:World) (l:List Ex) (v:Value):Prop :=
 (l=[]∧v=.slice none 0 0)∨∃(g cap:Nat) (us:List (List Value)),v=.slice (some ⟨g,0,none⟩) l.length cap∧l≠[]∧us.length=l.length∧S g∧g<w.heap.size∧l.length≤cap∧cap≤maxLen ∧
  (∀j u,us.flatten[j]?=some u→w.cell? ⟨g,j,none⟩=some u)∧(∀c∈us,c.length=5)∧∀(j:Nat) (x:Ex) (c:List Value),l[j]?=some x→us[j]?=some c→zH S w x (.agg c.toArray)
abbrev Zr (B:Nat) (w:World) (l:List Ex) (v:Value):Prop:=zI (fun k=>B≤k) w l v
theorem zI.kept {S:Nat→Prop} {w w':World} {l:List Ex} {v:Value} (h:zI S w l v) (hs:w.heap.size≤w'.heap.size) (hb:∀k,S k→k<w.heap.size→w'.heap[k]?=w.heap[k]?):zI S w' l v:=by
 rcases h with h | ⟨g,z,K,H,A,y,E,D,G,J,e,o,I⟩
 ·exact .inl h
 ·refine .inr ⟨g,z,K,H,A,y,E,Nat.lt_of_lt_of_le D hs,G,J,fun j u hj=>?_,o,fun j x c hx hc'=>zH.kept (I j x c hx hc') hs hb⟩
  rw [World.cell?_of_block (hb g E D)];exact e j u hj
theorem zH.of_row {S:Nat→Prop} {w:World} {l:List Ex} {v:Value} (h:zI S w l v) (k:Nat) (s:List UInt8) (n:Int) (line:Nat):zH S w (.mk k s n l line) (.agg #[.int .i64 k,.string (za s),.int .i64 n,v,.int .i64 line]):=by
 rcases h with ⟨rfl,rfl⟩ | ⟨g,z,J,rfl,A,y,G,D,E,I,e,o,H⟩
 ·exact .leaf k s n line
 ·exact .node k s n l line g z J A y G D E I e o H
theorem zI.wide {S S':Nat→Prop} {w:World} {l:List Ex} {v:Value} (h:zI S w l v) (hS:∀k,S k→S' k):zI S' w l v:=by
 rcases h with h | ⟨g,z,K,H,A,y,G,D,E,J,e,o,I⟩
 ·exact .inl h
 ·exact .inr ⟨g,z,K,H,A,y,hS _ G,D,E,J,e,o,fun j x c hx hc'=>zH.wide (I j x c hx hc') hS⟩
theorem Zr.kept {B:Nat} {w w':World} {l:List Ex} {v:Value} (h:Zr B w l v) (hs:w.heap.size≤w'.heap.size) (hb:∀k,B≤k→k<w.heap.size→w'.heap[k]?=w.heap[k]?):Zr B w' l v:=zI.kept h hs hb
theorem zM.of_row {B:Nat} {w:World} {l:List Ex} {v:Value} (h:Zr B w l v) (k:Nat) (s:List UInt8) (n:Int) (line:Nat):zM B w (.mk k s n l line) (.agg #[.int .i64 k,.string (za s),.int .i64 n,v,.int .i64 line]):=zH.of_row h k s n line
theorem zM.mono {B B':Nat} {w:World} {x:Ex} {v:Value} (h:zM B w x v) (hb:B'≤B):zM B' w x v:=zH.wide h fun _ hk=>Nat.le_trans hb hk
theorem Zr.mono {B B':Nat} {w:World} {l:List Ex} {v:Value} (h:Zr B w l v) (hb:B'≤B):Zr B' w l v:=zI.wide h fun _ hk=>Nat.le_trans hb hk
def zr (r g:Nat) (w:World) (res:PR Ex) (e:Ending) (w':World):Prop :=
 zb r w w'∧match res with
  | .error a=>e=ZQ a
  | .ok (x,ts)=>∃v o cap,e=.returned v∧zM w.heap.size w' x v∧zj r g o cap ts w'
def Y7 (r g:Nat) (w:World) (res:PR (List Ex)) (e:Ending) (w':World):Prop :=
 zb r w w'∧match res with
  | .error a=>e=ZQ a
  | .ok (l,ts)=>∃v o cap,e=.returned v∧Zr w.heap.size w' l v∧zj r g o cap ts w'
theorem zb.cell {r:Nat} {w w':World} (h:zb r w w') {p:Addr} {v:Value} (hp:p.block≠r) (hc:w.cell? p=some v):w'.cell? p=some v:=by
 rw [World.cell?_of_block (h.block p.block (World.block_lt_of_cell? w _ hc) hp)];exact hc
abbrev set5 (w:World) (N:Nat) (a b c d e:Value):World:=((((w.setCell ⟨N,0,none⟩ a).setCell ⟨N,1,none⟩ b).setCell ⟨N,2,none⟩ c).setCell ⟨N,3,none⟩ d).setCell ⟨N,4,none⟩ e
theorem zi {w:World} {N:Nat} {x0 x1 x2 x3 x4:Value} {ty:TypeId} (h:w.heap[N]?=some (.cells #[x0,x1,x2,x3,x4] ty (0,0))) (a b c d e:Value) :
  (set5 w N a b c d e).cell? ⟨N,0,none⟩=some a∧(set5 w N a b c d e).cell? ⟨N,1,none⟩=some b∧(set5 w N a b c d e).cell? ⟨N,2,none⟩=some c∧(set5 w N a b c d e).cell? ⟨N,3,none⟩=some d∧(set5 w N a b c d e).cell? ⟨N,4,none⟩=some e:=by
 have D:w.cell? ⟨N,0,none⟩=some x0:=by simp only [World.cell?,h];rfl
 have o:w.cell? ⟨N,1,none⟩=some x1:=by simp only [World.cell?,h];rfl
 have z:w.cell? ⟨N,2,none⟩=some x2:=by simp only [World.cell?,h];rfl
 have A:w.cell? ⟨N,3,none⟩=some x3:=by simp only [World.cell?,h];rfl
 have y:w.cell? ⟨N,4,none⟩=some x4:=by simp only [World.cell?,h];rfl
 refine ⟨?_,?_,?_,?_,?_⟩
 ·rw [World.cell?_setCell_other _ _ _ _ (by simp),World.cell?_setCell_other _ _ _ _ (by simp),World.cell?_setCell_other _ _ _ _ (by simp),World.cell?_setCell_other _ _ _ _ (by simp)]
  exact World.cell?_setCell_same _ _ _ D
 ·rw [World.cell?_setCell_other _ _ _ _ (by simp),World.cell?_setCell_other _ _ _ _ (by simp),World.cell?_setCell_other _ _ _ _ (by simp)]
  exact World.cell?_setCell_same _ _ _ ((World.cell?_setCell_other _ _ _ _ (by simp)).trans o)
 ·rw [World.cell?_setCell_other _ _ _ _ (by simp),World.cell?_setCell_other _ _ _ _ (by simp)]
  exact World.cell?_setCell_same _ _ _ ((World.cell?_setCell_other _ _ _ _ (by simp)).trans ((World.cell?_setCell_other _ _ _ _ (by simp)).trans z))
 ·rw [World.cell?_setCell_other _ _ _ _ (by simp)]
  exact World.cell?_setCell_same _ _ _ ((World.cell?_setCell_other _ _ _ _ (by simp)).trans ((World.cell?_setCell_other _ _ _ _ (by simp)).trans ((World.cell?_setCell_other _ _ _ _ (by simp)).trans A)))
 ·exact World.cell?_setCell_same _ _ _ ((World.cell?_setCell_other _ _ _ _ (by simp)).trans ((World.cell?_setCell_other _ _ _ _ (by simp)).trans ((World.cell?_setCell_other _ _ _ _ (by simp)).trans ((World.cell?_setCell_other _ _ _ _ (by simp)).trans y))))
theorem zh (w:World) (N:Nat) (a b c d e:Value) {k:Nat} (hk:k≠N):(set5 w N a b c d e).heap[k]?=w.heap[k]?:=by
 rw [Below.heap_setCell _ _ _ _ (by simpa using hk),Below.heap_setCell _ _ _ _ (by simpa using hk),Below.heap_setCell _ _ _ _ (by simpa using hk),Below.heap_setCell _ _ _ _ (by simpa using hk),Below.heap_setCell _ _ _ _ (by simpa using hk)]
theorem Zo {r:Nat} {w0 w:World} {N:Nat} (h:zb r w0 w) (hN:w0.heap.size≤N) (a b c d e:Value):zb r w0 (set5 w N a b c d e):=by
 have o:Below 0 w (set5 w N a b c d e):=(((((Below.refl 0 w).setCell (p:=⟨N,0,none⟩) (Nat.zero_le _) a).setCell (p:=⟨N,1,none⟩) (Nat.zero_le _) b).setCell (p:=⟨N,2,none⟩) (Nat.zero_le _) c).setCell (p:=⟨N,3,none⟩) (Nat.zero_le _) d).setCell (p:=⟨N,4,none⟩) (Nat.zero_le _) e;exact ⟨o.os.trans h.os,o.tape.trans h.tape,o.output.trans h.output,Nat.le_trans h.size o.size,fun k hk hr=>(zh w N a b c d e (by omega)).trans (h.block k hk hr)⟩
theorem ua (r g o cap:Nat) (t u:Tk) (us:List Tk) (w:World) (h:zj r g o cap (t::u::us) w) (hk:t.k=1) (hu:zk u [40]=false) :
  Calls Tryz.prog 176 #[.pointer (some ⟨r,0,none⟩)] w (zr r g w (.ok (.mk 4 t.s 0 [] t.line,u::us))):=by
 have hf:=xk;have hr:=h.lt.1;have ad:=h.lt.2;have Y:=h.alloc (.cells #[.int .i64 0,.string ⟨#[]⟩,.int .i64 0,.slice none 0 0,.int .i64 0] 90);have ch:=ZD r g o cap t (u::us) _ Y;obtain ⟨w2,G⟩:∃w2,w2=((w.alloc (.cells #[.int .i64 0,.string ⟨#[]⟩,.int .i64 0,.slice none 0 0,.int .i64 0] 90)).alloc (Zc t)).alloc (.cells #[.int .i64 4,.string ⟨#[]⟩,.int .i64 0,.slice none 0 0,.int .i64 t.line] 90):=⟨_,rfl⟩;have h2:zj r g o cap (t::u::us) w2:=by rw [G];exact (Y.alloc _).alloc _
 have R:Hid (zb r w w2):=by rw [G];exact (((zb.refl r w).alloc _).alloc _).alloc _
 have W:=Vn r g o cap t (u::us) w2 h2 (fun _=>by simp)
 simp only [hk,if_true] at W;clear h Y h2
 go_enter Tryz.func176,Tryz.ntmps176
 go_wp2_with fail
 refine ch.mono ?_;clear ch;rintro e w1 ⟨rfl,rfl⟩;simp only [YH];go_wp2_with fail
 rw [←G];refine W.mono ?_;clear W;rintro e I ⟨J,rfl,h3⟩
 have V:w2.heap[w.heap.size+1+1]?=some (.cells #[.int .i64 4,.string ⟨#[]⟩,.int .i64 0,.slice none 0 0,.int .i64 t.line] 90 (0,0)):=by
  have hx:=World.alloc_heap_new ((w.alloc (.cells #[.int .i64 0,.string ⟨#[]⟩,.int .i64 0,.slice none 0 0,.int .i64 0] 90)).alloc (Zc t)) (.cells #[.int .i64 4,.string ⟨#[]⟩,.int .i64 0,.slice none 0 0,.int .i64 t.line] 90);rw [←G,show ((w.alloc (.cells #[.int .i64 0,.string ⟨#[]⟩,.int .i64 0,.slice none 0 0,.int .i64 0] 90)).alloc (Zc t)).heap.size=w.heap.size+1+1 by simp] at hx
  exact hx
 have Z:w2.heap[w.heap.size]?=some (.cells #[.int .i64 0,.string ⟨#[]⟩,.int .i64 0,.slice none 0 0,.int .i64 0] 90 (0,0)):=by
  rw [G,Below.heap_alloc _ _ _ (by simp;omega),Below.heap_alloc _ _ _ (by simp)]
  exact World.alloc_heap_new _ _
 have D:=(J.block _ (Array.getElem?_eq_some_iff.1 V).1 (by omega)).trans V
 have O:=(J.block _ (Array.getElem?_eq_some_iff.1 Z).1 (by omega)).trans Z
 have E:Hid (zb r w I):=R.out.trans J;clear V Z J G R;have c0:I.cell? ⟨w.heap.size+1+1,0,none⟩=some (.int .i64 4):=by simp only [World.cell?,D];rfl
 have c1:I.cell? ⟨w.heap.size+1+1,1,none⟩=some (.string ⟨#[]⟩):=by simp only [World.cell?,D];rfl
 have c2:I.cell? ⟨w.heap.size+1+1,2,none⟩=some (.int .i64 0):=by simp only [World.cell?,D];rfl
 have c3:I.cell? ⟨w.heap.size+1+1,3,none⟩=some (.slice none 0 0):=by simp only [World.cell?,D];rfl
 have c4:I.cell? ⟨w.heap.size+1+1,4,none⟩=some (.int .i64 t.line):=by simp only [World.cell?,D];rfl
 have cf:I.frozen? ⟨w.heap.size+1+1,1,none⟩=false:=by simp only [World.frozen?,D];rfl
 obtain ⟨w4,y⟩:∃w4,w4=I.setCell ⟨w.heap.size+1+1,1,none⟩ (.string (za t.s)):=⟨_,rfl⟩;have d0:w4.cell? ⟨w.heap.size+1+1,0,none⟩=some (.int .i64 4):=by rw [y,World.cell?_setCell_other _ _ _ _ (by simp)];exact c0
 have d1:w4.cell? ⟨w.heap.size+1+1,1,none⟩=some (.string (za t.s)):=by rw [y];exact World.cell?_setCell_same _ _ _ c1
 have d2:w4.cell? ⟨w.heap.size+1+1,2,none⟩=some (.int .i64 0):=by rw [y,World.cell?_setCell_other _ _ _ _ (by simp)];exact c2
 have d3:w4.cell? ⟨w.heap.size+1+1,3,none⟩=some (.slice none 0 0):=by rw [y,World.cell?_setCell_other _ _ _ _ (by simp)];exact c3
 have d4:w4.cell? ⟨w.heap.size+1+1,4,none⟩=some (.int .i64 t.line):=by rw [y,World.cell?_setCell_other _ _ _ _ (by simp)];exact c4
 have z:∀k,k≠w.heap.size+1+1→w4.heap[k]?=I.heap[k]?:=fun k hk=>by rw [y];exact Below.heap_setCell _ _ _ _ (by simpa using hk)
 have X:zj r g (o+5) (cap-1) (u::us) w4:=h3.keep (z r (by omega)) (z g (by omega))
 have T:Hid (zb r w w4):=⟨by rw [y];exact E.out.os,by rw [y];exact E.out.tape,by rw [y];exact E.out.output,by rw [y];simpa using E.out.size,fun k hk hr=>(z k (by omega)).trans (E.out.block k hk hr)⟩
 have K:=(z w.heap.size (by omega)).trans O
 have U:=zar r g (o+5) (cap-1) u us [40] w4 X;rw [hu] at U;have Q:Hid (I.setCell ⟨w.heap.size+1+1,1,none⟩ (.string (za t.s))=w4):=y.symm;obtain ⟨H,A⟩:∃H,H=(w4.alloc (Zc u)).alloc (Zc u):=⟨_,rfl⟩;rw [←A] at U;have ab:Hid (zj r g (o+5) (cap-1) (u::us) H):=by rw [A];exact (X.alloc _).alloc _
 have aa:Hid (zb r w H):=by rw [A];exact (T.out.alloc _).alloc _
 have e0:H.cell? ⟨w.heap.size+1+1,0,none⟩=some (.int .i64 4):=by rw [A];exact zc (zc d0 _) _
 have e1:H.cell? ⟨w.heap.size+1+1,1,none⟩=some (.string (za t.s)):=by rw [A];exact zc (zc d1 _) _
 have e2:H.cell? ⟨w.heap.size+1+1,2,none⟩=some (.int .i64 0):=by rw [A];exact zc (zc d2 _) _
 have e3:H.cell? ⟨w.heap.size+1+1,3,none⟩=some (.slice none 0 0):=by rw [A];exact zc (zc d3 _) _
 have e4:H.cell? ⟨w.heap.size+1+1,4,none⟩=some (.int .i64 t.line):=by rw [A];exact zc (zc d4 _) _
 have N:w.heap.size<w4.heap.size:=(Array.getElem?_eq_some_iff.1 K).1
 have L:H.heap[w.heap.size]?=some (.cells #[.int .i64 0,.string ⟨#[]⟩,.int .i64 0,.slice none 0 0,.int .i64 0] 90 (0,0)):=by
  rw [A,Below.heap_alloc _ _ _ (by simp;omega),Below.heap_alloc _ _ _ N];exact K
 clear y z h3 X D O K E T d0 d1 d2 d3 d4 A N;go_wp2_with fail
 rw [Q.out];refine U.mono ?_;clear U c0 c1 c2 c3 c4 cf;rintro e M ⟨rfl,rfl⟩;have q0:M.cell? ⟨w.heap.size,0,none⟩=some (.int .i64 0):=by simp only [World.cell?,L];rfl
 have q1:M.cell? ⟨w.heap.size,1,none⟩=some (.string ⟨#[]⟩):=by simp only [World.cell?,L];rfl
 have q2:M.cell? ⟨w.heap.size,2,none⟩=some (.int .i64 0):=by simp only [World.cell?,L];rfl
 have q3:M.cell? ⟨w.heap.size,3,none⟩=some (.slice none 0 0):=by simp only [World.cell?,L];rfl
 have q4:M.cell? ⟨w.heap.size,4,none⟩=some (.int .i64 0):=by simp only [World.cell?,L];rfl
 have qf:∀j,M.frozen? ⟨w.heap.size,j,none⟩=false:=fun j=>by simp only [World.frozen?,L];simp
 go_wp2
 obtain ⟨z0,z1,z2,z3,z4⟩:=zi L (.int .i64 4) (.string (za t.s)) (.int .i64 0) (.slice none 0 0) (.int .i64 t.line);refine bodyPost_ret (v:=.agg #[.int .i64 4,.string (za t.s),.int .i64 0,.slice none 0 0,.int .i64 t.line]) (by simp [results,Tryz.results176,go_sem,z0,z1,z2,z3,z4]) rfl ⟨Zo aa.out (Nat.le_refl _) _ _ _ _ _,_,o+5,cap-1,rfl,.leaf 4 t.s 0 t.line,?_⟩
 exact ab.out.keep (zh _ _ _ _ _ _ _ (by omega)) (zh _ _ _ _ _ _ _ (by omega))
end Go.Proofs.YtmbofhpmockmbaaGreatDoor
