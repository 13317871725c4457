import Derived.Test.YtmbofhpmockmbaaGreatDoorMC10
namespace Go.Proofs.YtmbofhpmockmbaaGreatDoor
open Go.RowKit Go.Shelf
set_option maxHeartbeats 16000000
set_option maxRecDepth 100000
def NmT (t:Tk):Prop:=t.k=1→t.s.length≤1099511627776
def zt:List Tk→Prop
 | []=>False
 | [t]=>t.k=0
 | t::ts=>t.k≠0∧NmT t∧zt ts
theorem zt.ne {ts:List Tk} (h:zt ts):ts≠[]:=by cases ts <;> simp [zt] at h ⊢
theorem zt.tail {t:Tk} {ts:List Tk} (h:zt (t::ts)) (hk:t.k≠0):zt ts:=by
 cases ts with
 | nil=>exact absurd h hk
 | cons u us=>exact h.2.2
theorem zo {t:Tk} {s:List UInt8} (h:zm t s=true):t.k≠0:=by
 unfold zm at h
 intro e
 simp [e] at h
theorem zt.cons {ts:List Tk} (h:zt ts):∃t us,ts=t::us:=by
 cases ts with
 | nil=>exact absurd h (by simp [zt])
 | cons t us=>exact ⟨t,us,rfl⟩
theorem yA {f k least:Nat} {ts:List Tk} {r:PR Ex} (h:zh f least ts=some r):zh (f+k) least ts=some r:=by
 induction k with
 | zero=>exact h
 | succ k ih=>exact (Uv (f+k)).1 _ _ _ ih
theorem Yk {f f' least:Nat} {ts:List Tk} {r r':PR Ex} (h:zh f least ts=some r) (h':zh f' least ts=some r'):r=r':=by
 have a:=yA (k:=f') h;have b:=yA (k:=f) h';rw [Nat.add_comm] at b;exact Option.some.inj (a.symm.trans b)
def zK (S:Nat→Prop) (w:World) (l:List Ex) (v:Value):Prop :=
 (l=[]∧v=.slice none 0 0)∨∃(g cap:Nat) (us:List (List Value)),v=.slice (some ⟨g,0,none⟩) l.length cap∧l≠[]∧us.length=l.length∧S g∧g<w.heap.size∧l.length≤cap∧cap≤maxLen ∧
  (∀j u,us.flatten[j]?=some u→w.cell? ⟨g,j,none⟩=some u)∧(∀c∈us,c.length=5)∧∀(j:Nat) (x:Ex) (c:List Value),l[j]?=some x→us[j]?=some c→zJ S w x (.agg c.toArray)
abbrev Zw (B:Nat) (w:World) (l:List Ex) (v:Value):Prop:=zK (fun k=>B≤k) w l v
theorem zK.kept {S:Nat→Prop} {w w':World} {l:List Ex} {v:Value} (h:zK S w l v) (hs:w.heap.size≤w'.heap.size) (hb:∀k,S k→k<w.heap.size→w'.heap[k]?=w.heap[k]?):zK S w' l v:=by
 rcases h with h | ⟨g,z,K,I,A,y,E,D,J,H,o,e,G⟩
 ·exact .inl h
 ·refine .inr ⟨g,z,K,I,A,y,E,Nat.lt_of_lt_of_le D hs,J,H,fun j u hj=>?_,e,fun j x c hx hc'=>zJ.kept (G j x c hx hc') hs hb⟩
  rw [World.cell?_of_block (hb g E D)];exact o j u hj
theorem zJ.of_row {S:Nat→Prop} {w:World} {l:List Ex} {v:Value} (h:zK S w l v) (k:Nat) (s:List UInt8) (n:Int) (line:Nat):zJ S w (.mk k s n l line) (.agg #[.int .i64 k,.string (za s),.int .i64 n,v,.int .i64 line]):=by
 rcases h with ⟨rfl,rfl⟩ | ⟨g,z,I,rfl,A,y,G,E,J,H,o,e,D⟩
 ·exact .leaf k s n line
 ·exact .node k s n l line g z I A y G E J H o e D
theorem zK.wide {S S':Nat→Prop} {w:World} {l:List Ex} {v:Value} (h:zK S w l v) (hS:∀k,S k→S' k):zK S' w l v:=by
 rcases h with h | ⟨g,z,K,I,A,y,G,E,J,H,o,e,D⟩
 ·exact .inl h
 ·exact .inr ⟨g,z,K,I,A,y,hS _ G,E,J,H,o,e,fun j x c hx hc'=>zJ.wide (D j x c hx hc') hS⟩
theorem Zw.kept {B:Nat} {w w':World} {l:List Ex} {v:Value} (h:Zw B w l v) (hs:w.heap.size≤w'.heap.size) (hb:∀k,B≤k→k<w.heap.size→w'.heap[k]?=w.heap[k]?):Zw B w' l v:=zK.kept h hs hb
theorem zO.of_row {B:Nat} {w:World} {l:List Ex} {v:Value} (h:Zw B w l v) (k:Nat) (s:List UInt8) (n:Int) (line:Nat):zO B w (.mk k s n l line) (.agg #[.int .i64 k,.string (za s),.int .i64 n,v,.int .i64 line]):=zJ.of_row h k s n line
theorem zO.mono {B B':Nat} {w:World} {x:Ex} {v:Value} (h:zO B w x v) (hb:B'≤B):zO B' w x v:=zJ.wide h fun _ hk=>Nat.le_trans hb hk
theorem Zw.mono {B B':Nat} {w:World} {l:List Ex} {v:Value} (h:Zw B w l v) (hb:B'≤B):Zw B' w l v:=zK.wide h fun _ hk=>Nat.le_trans hb hk
def zu (r g:Nat) (w:World) (res:PR Ex) (e:Ending) (w':World):Prop :=
 zc r w w'∧match res with
  | .error a=>e=ZU a
  | .ok (x,ts)=>∃v o cap,e=.returned v∧zO w.heap.size w' x v∧zk r g o cap ts w'
def xn (r g:Nat) (w:World) (res:PR (List Ex)) (e:Ending) (w':World):Prop :=
 zc r w w'∧match res with
  | .error a=>e=ZU a
  | .ok (l,ts)=>∃v o cap,e=.returned v∧Zw w.heap.size w' l v∧zk r g o cap ts w'
theorem zc.cell {r:Nat} {w w':World} (h:zc r w w') {p:Addr} {v:Value} (hp:p.block≠r) (hc:w.cell? p=some v):w'.cell? p=some v:=by
 rw [World.cell?_of_block (h.block p.block (World.block_lt_of_cell? w _ hc) hp)];exact hc
abbrev set5 (w:World) (N:Nat) (a b c d e:Value):World:=((((w.setCell ⟨N,0,none⟩ a).setCell ⟨N,1,none⟩ b).setCell ⟨N,2,none⟩ c).setCell ⟨N,3,none⟩ d).setCell ⟨N,4,none⟩ e
theorem zj {w:World} {N:Nat} {x0 x1 x2 x3 x4:Value} {ty:TypeId} (h:w.heap[N]?=some (.cells #[x0,x1,x2,x3,x4] ty (0,0))) (a b c d e:Value) :
  (set5 w N a b c d e).cell? ⟨N,0,none⟩=some a∧(set5 w N a b c d e).cell? ⟨N,1,none⟩=some b∧(set5 w N a b c d e).cell? ⟨N,2,none⟩=some c∧(set5 w N a b c d e).cell? ⟨N,3,none⟩=some d∧(set5 w N a b c d e).cell? ⟨N,4,none⟩=some e:=by
 have y:w.cell? ⟨N,0,none⟩=some x0:=by simp only [World.cell?,h];rfl
 have A:w.cell? ⟨N,1,none⟩=some x1:=by simp only [World.cell?,h];rfl
 have D:w.cell? ⟨N,2,none⟩=some x2:=by simp only [World.cell?,h];rfl
 have z:w.cell? ⟨N,3,none⟩=some x3:=by simp only [World.cell?,h];rfl
 have o:w.cell? ⟨N,4,none⟩=some x4:=by simp only [World.cell?,h];rfl
 refine ⟨?_,?_,?_,?_,?_⟩
 ·rw [World.cell?_setCell_other _ _ _ _ (by simp),World.cell?_setCell_other _ _ _ _ (by simp),World.cell?_setCell_other _ _ _ _ (by simp),World.cell?_setCell_other _ _ _ _ (by simp)]
  exact World.cell?_setCell_same _ _ _ y
 ·rw [World.cell?_setCell_other _ _ _ _ (by simp),World.cell?_setCell_other _ _ _ _ (by simp),World.cell?_setCell_other _ _ _ _ (by simp)]
  exact World.cell?_setCell_same _ _ _ ((World.cell?_setCell_other _ _ _ _ (by simp)).trans A)
 ·rw [World.cell?_setCell_other _ _ _ _ (by simp),World.cell?_setCell_other _ _ _ _ (by simp)]
  exact World.cell?_setCell_same _ _ _ ((World.cell?_setCell_other _ _ _ _ (by simp)).trans ((World.cell?_setCell_other _ _ _ _ (by simp)).trans D))
 ·rw [World.cell?_setCell_other _ _ _ _ (by simp)]
  exact World.cell?_setCell_same _ _ _ ((World.cell?_setCell_other _ _ _ _ (by simp)).trans ((World.cell?_setCell_other _ _ _ _ (by simp)).trans ((World.cell?_setCell_other _ _ _ _ (by simp)).trans z)))
 ·exact World.cell?_setCell_same _ _ _ ((World.cell?_setCell_other _ _ _ _ (by simp)).trans ((World.cell?_setCell_other _ _ _ _ (by simp)).trans ((World.cell?_setCell_other _ _ _ _ (by simp)).trans ((World.cell?_setCell_other _ _ _ _ (by simp)).trans o))))
theorem zi (w:World) (N:Nat) (a b c d e:Value) {k:Nat} (hk:k≠N):(set5 w N a b c d e).heap[k]?=w.heap[k]?:=by
 rw [Below.heap_setCell _ _ _ _ (by simpa using hk),Below.heap_setCell _ _ _ _ (by simpa using hk),Below.heap_setCell _ _ _ _ (by simpa using hk),Below.heap_setCell _ _ _ _ (by simpa using hk),Below.heap_setCell _ _ _ _ (by simpa using hk)]
theorem Zs {r:Nat} {w0 w:World} {N:Nat} (h:zc r w0 w) (hN:w0.heap.size≤N) (a b c d e:Value):zc r w0 (set5 w N a b c d e):=by
 have o:Below 0 w (set5 w N a b c d e):=(((((Below.refl 0 w).setCell (p:=⟨N,0,none⟩) (Nat.zero_le _) a).setCell (p:=⟨N,1,none⟩) (Nat.zero_le _) b).setCell (p:=⟨N,2,none⟩) (Nat.zero_le _) c).setCell (p:=⟨N,3,none⟩) (Nat.zero_le _) d).setCell (p:=⟨N,4,none⟩) (Nat.zero_le _) e;exact ⟨o.os.trans h.os,o.tape.trans h.tape,o.output.trans h.output,Nat.le_trans h.size o.size,fun k hk hr=>(zi w N a b c d e (by omega)).trans (h.block k hk hr)⟩
theorem uB (r g o cap:Nat) (t u:Tk) (us:List Tk) (w:World) (h:zk r g o cap (t::u::us) w) (hk:t.k=1) (hu:zm u [40]=false) :
  Calls Tryz.prog 176 #[.pointer (some ⟨r,0,none⟩)] w (zu r g w (.ok (.mk 4 t.s 0 [] t.line,u::us))):=by
 have hf:=xy;have hr:=h.lt.1;have ab:=h.lt.2;have W:=h.alloc (.cells #[.int .i64 0,.string ⟨#[]⟩,.int .i64 0,.slice none 0 0,.int .i64 0] 90);have ch:=ZI r g o cap t (u::us) _ W;obtain ⟨w2,E⟩:∃w2,w2=((w.alloc (.cells #[.int .i64 0,.string ⟨#[]⟩,.int .i64 0,.slice none 0 0,.int .i64 0] 90)).alloc (Zf t)).alloc (.cells #[.int .i64 4,.string ⟨#[]⟩,.int .i64 0,.slice none 0 0,.int .i64 t.line] 90):=⟨_,rfl⟩;have h2:zk r g o cap (t::u::us) w2:=by rw [E];exact (W.alloc _).alloc _
 have O:Hid (zc r w w2):=by rw [E];exact (((zc.refl r w).alloc _).alloc _).alloc _
 have Y:=VI r g o cap t (u::us) w2 h2 (fun _=>by simp)
 simp only [hk,if_true] at Y;clear h W h2
 go_enter Tryz.func176,Tryz.ntmps176
 go_wp2_with fail
 refine ch.mono ?_;clear ch;rintro e w1 ⟨rfl,rfl⟩;simp only [YQ];go_wp2_with fail
 rw [←E];refine Y.mono ?_;clear Y;rintro e I ⟨J,rfl,h3⟩
 have X:w2.heap[w.heap.size+1+1]?=some (.cells #[.int .i64 4,.string ⟨#[]⟩,.int .i64 0,.slice none 0 0,.int .i64 t.line] 90 (0,0)):=by
  have hx:=World.alloc_heap_new ((w.alloc (.cells #[.int .i64 0,.string ⟨#[]⟩,.int .i64 0,.slice none 0 0,.int .i64 0] 90)).alloc (Zf t)) (.cells #[.int .i64 4,.string ⟨#[]⟩,.int .i64 0,.slice none 0 0,.int .i64 t.line] 90);rw [←E,show ((w.alloc (.cells #[.int .i64 0,.string ⟨#[]⟩,.int .i64 0,.slice none 0 0,.int .i64 0] 90)).alloc (Zf t)).heap.size=w.heap.size+1+1 by simp] at hx
  exact hx
 have n0:w2.heap[w.heap.size]?=some (.cells #[.int .i64 0,.string ⟨#[]⟩,.int .i64 0,.slice none 0 0,.int .i64 0] 90 (0,0)):=by
  rw [E,Below.heap_alloc _ _ _ (by simp;omega),Below.heap_alloc _ _ _ (by simp)]
  exact World.alloc_heap_new _ _
 have D:=(J.block _ (Array.getElem?_eq_some_iff.1 X).1 (by omega)).trans X
 have Q:=(J.block _ (Array.getElem?_eq_some_iff.1 n0).1 (by omega)).trans n0
 have G:Hid (zc r w I):=O.out.trans J;clear X n0 J E O;have c0:I.cell? ⟨w.heap.size+1+1,0,none⟩=some (.int .i64 4):=by simp only [World.cell?,D];rfl
 have c1:I.cell? ⟨w.heap.size+1+1,1,none⟩=some (.string ⟨#[]⟩):=by simp only [World.cell?,D];rfl
 have c2:I.cell? ⟨w.heap.size+1+1,2,none⟩=some (.int .i64 0):=by simp only [World.cell?,D];rfl
 have c3:I.cell? ⟨w.heap.size+1+1,3,none⟩=some (.slice none 0 0):=by simp only [World.cell?,D];rfl
 have c4:I.cell? ⟨w.heap.size+1+1,4,none⟩=some (.int .i64 t.line):=by simp only [World.cell?,D];rfl
 have cf:I.frozen? ⟨w.heap.size+1+1,1,none⟩=false:=by simp only [World.frozen?,D];rfl
 obtain ⟨w4,y⟩:∃w4,w4=I.setCell ⟨w.heap.size+1+1,1,none⟩ (.string (za t.s)):=⟨_,rfl⟩;have d0:w4.cell? ⟨w.heap.size+1+1,0,none⟩=some (.int .i64 4):=by rw [y,World.cell?_setCell_other _ _ _ _ (by simp)];exact c0
 have d1:w4.cell? ⟨w.heap.size+1+1,1,none⟩=some (.string (za t.s)):=by rw [y];exact World.cell?_setCell_same _ _ _ c1
 have d2:w4.cell? ⟨w.heap.size+1+1,2,none⟩=some (.int .i64 0):=by rw [y,World.cell?_setCell_other _ _ _ _ (by simp)];exact c2
 have d3:w4.cell? ⟨w.heap.size+1+1,3,none⟩=some (.slice none 0 0):=by rw [y,World.cell?_setCell_other _ _ _ _ (by simp)];exact c3
 have d4:w4.cell? ⟨w.heap.size+1+1,4,none⟩=some (.int .i64 t.line):=by rw [y,World.cell?_setCell_other _ _ _ _ (by simp)];exact c4
 have z:∀k,k≠w.heap.size+1+1→w4.heap[k]?=I.heap[k]?:=fun k hk=>by rw [y];exact Below.heap_setCell _ _ _ _ (by simpa using hk)
 have V:zk r g (o+5) (cap-1) (u::us) w4:=h3.keep (z r (by omega)) (z g (by omega))
 have N:Hid (zc r w w4):=⟨by rw [y];exact G.out.os,by rw [y];exact G.out.tape,by rw [y];exact G.out.output,by rw [y];simpa using G.out.size,fun k hk hr=>(z k (by omega)).trans (G.out.block k hk hr)⟩
 have K:=(z w.heap.size (by omega)).trans Q
 have U:=zaO r g (o+5) (cap-1) u us [40] w4 V;rw [hu] at U;have R:Hid (I.setCell ⟨w.heap.size+1+1,1,none⟩ (.string (za t.s))=w4):=y.symm;obtain ⟨H,A⟩:∃H,H=(w4.alloc (Zf u)).alloc (Zf u):=⟨_,rfl⟩;rw [←A] at U;have Z:Hid (zk r g (o+5) (cap-1) (u::us) H):=by rw [A];exact (V.alloc _).alloc _
 have aa:Hid (zc r w H):=by rw [A];exact (N.out.alloc _).alloc _
 have e0:H.cell? ⟨w.heap.size+1+1,0,none⟩=some (.int .i64 4):=by rw [A];exact zd (zd d0 _) _
 have e1:H.cell? ⟨w.heap.size+1+1,1,none⟩=some (.string (za t.s)):=by rw [A];exact zd (zd d1 _) _
 have e2:H.cell? ⟨w.heap.size+1+1,2,none⟩=some (.int .i64 0):=by rw [A];exact zd (zd d2 _) _
 have e3:H.cell? ⟨w.heap.size+1+1,3,none⟩=some (.slice none 0 0):=by rw [A];exact zd (zd d3 _) _
 have e4:H.cell? ⟨w.heap.size+1+1,4,none⟩=some (.int .i64 t.line):=by rw [A];exact zd (zd d4 _) _
 have T:w.heap.size<w4.heap.size:=(Array.getElem?_eq_some_iff.1 K).1
 have L:H.heap[w.heap.size]?=some (.cells #[.int .i64 0,.string ⟨#[]⟩,.int .i64 0,.slice none 0 0,.int .i64 0] 90 (0,0)):=by
  rw [A,Below.heap_alloc _ _ _ (by simp;omega),Below.heap_alloc _ _ _ T];exact K
 clear y z h3 V D Q K G N d0 d1 d2 d3 d4 A T;go_wp2_with fail
 rw [R.out];refine U.mono ?_;clear U c0 c1 c2 c3 c4 cf;rintro e M ⟨rfl,rfl⟩;have q0:M.cell? ⟨w.heap.size,0,none⟩=some (.int .i64 0):=by simp only [World.cell?,L];rfl
 have q1:M.cell? ⟨w.heap.size,1,none⟩=some (.string ⟨#[]⟩):=by simp only [World.cell?,L];rfl
 have q2:M.cell? ⟨w.heap.size,2,none⟩=some (.int .i64 0):=by simp only [World.cell?,L];rfl
 have q3:M.cell? ⟨w.heap.size,3,none⟩=some (.slice none 0 0):=by simp only [World.cell?,L];rfl
 have q4:M.cell? ⟨w.heap.size,4,none⟩=some (.int .i64 0):=by simp only [World.cell?,L];rfl
 have qf:∀j,M.frozen? ⟨w.heap.size,j,none⟩=false:=fun j=>by simp only [World.frozen?,L];simp
 go_wp2
 obtain ⟨z0,z1,z2,z3,z4⟩:=zj L (.int .i64 4) (.string (za t.s)) (.int .i64 0) (.slice none 0 0) (.int .i64 t.line);refine bodyPost_ret (v:=.agg #[.int .i64 4,.string (za t.s),.int .i64 0,.slice none 0 0,.int .i64 t.line]) (by simp [results,Tryz.results176,go_sem,z0,z1,z2,z3,z4]) rfl ⟨Zs aa.out (Nat.le_refl _) _ _ _ _ _,_,o+5,cap-1,rfl,.leaf 4 t.s 0 t.line,?_⟩
 exact Z.out.keep (zi _ _ _ _ _ _ _ (by omega)) (zi _ _ _ _ _ _ _ (by omega))
def U2 (t:Tk):PR (List Ex)→PR Ex
 | .error a=>.error a
 | .ok (l,ts)=>.ok (.mk 5 t.s 0 l t.line,ts)
theorem zc.setOther {r:Nat} {w w':World} (h:zc r w w') {p:Addr} (hp:w.heap.size≤p.block) (v:Value):zc r w (w'.setCell p v):=by
 have e:Below 0 w' (w'.setCell p v):=(Below.refl 0 w').setCell (p:=p) (Nat.zero_le _) v;exact ⟨e.os.trans h.os,e.tape.trans h.tape,e.output.trans h.output,Nat.le_trans h.size e.size,fun k hk hr=>(Below.heap_setCell _ _ _ _ (by omega)).trans (h.block k hk hr)⟩
theorem Xt {w w':World} {p:Addr} (h:w'.heap[p.block]?=w.heap[p.block]?):w'.frozen? p=w.frozen? p:=by
 simp only [World.frozen?,h]
theorem Uz (r g o cap:Nat) (t u:Tk) (us:List Tk) (w:World) (res:PR (List Ex)) (h:zk r g o cap (t::u::us) w) (hk:t.k=1) (hu:zm u [40]=true)
  (hbr:∀w1 o1 cap1,zk r g o1 cap1 (u::us) w1→zc r w w1→Calls Tryz.prog 177 #[.pointer (some ⟨r,0,none⟩),.func (.func 74) #[.pointer (some ⟨r,0,none⟩)] #[]] w1 (xn r g w1 res)) :
  Calls Tryz.prog 176 #[.pointer (some ⟨r,0,none⟩)] w (zu r g w (U2 t res)):=by
 have ay:∀(fn:Fn) (first cap:Array Value) (w:World),(Instr.makeFunc fn first cap).run Tryz.prog w=.ok (.func fn first cap) w:=fun _ _ _ _=>rfl
 generalize hres:U2 t res=res';have hf:=xy;have hr:=h.lt.1;have aw:=h.lt.2;have h0:=h.alloc (.cells #[.int .i64 0,.string ⟨#[]⟩,.int .i64 0,.slice none 0 0,.int .i64 0] 90);have ch:=ZI r g o cap t (u::us) _ h0;obtain ⟨w2,L⟩:∃w2,w2=((w.alloc (.cells #[.int .i64 0,.string ⟨#[]⟩,.int .i64 0,.slice none 0 0,.int .i64 0] 90)).alloc (Zf t)).alloc (.cells #[.int .i64 4,.string ⟨#[]⟩,.int .i64 0,.slice none 0 0,.int .i64 t.line] 90):=⟨_,rfl⟩;have h2:zk r g o cap (t::u::us) w2:=by rw [L];exact (h0.alloc _).alloc _
 have ag:Hid (zc r w w2):=by rw [L];exact (((zc.refl r w).alloc _).alloc _).alloc _
 have cn:=VI r g o cap t (u::us) w2 h2 (fun _=>by simp)
 simp only [hk,if_true] at cn;clear h h0 h2
 go_enter Tryz.func176,Tryz.ntmps176
 go_wp2_with fail
 refine ch.mono ?_;clear ch;rintro e w1 ⟨rfl,rfl⟩;simp only [YQ];go_wp2_with fail
 rw [←L];refine cn.mono ?_;clear cn;rintro e T ⟨U,rfl,h3⟩
 have n2:w2.heap[w.heap.size+1+1]?=some (.cells #[.int .i64 4,.string ⟨#[]⟩,.int .i64 0,.slice none 0 0,.int .i64 t.line] 90 (0,0)):=by
  have hx:=World.alloc_heap_new ((w.alloc (.cells #[.int .i64 0,.string ⟨#[]⟩,.int .i64 0,.slice none 0 0,.int .i64 0] 90)).alloc (Zf t)) (.cells #[.int .i64 4,.string ⟨#[]⟩,.int .i64 0,.slice none 0 0,.int .i64 t.line] 90);rw [←L,show ((w.alloc (.cells #[.int .i64 0,.string ⟨#[]⟩,.int .i64 0,.slice none 0 0,.int .i64 0] 90)).alloc (Zf t)).heap.size=w.heap.size+1+1 by simp] at hx
  exact hx
 have n0:w2.heap[w.heap.size]?=some (.cells #[.int .i64 0,.string ⟨#[]⟩,.int .i64 0,.slice none 0 0,.int .i64 0] 90 (0,0)):=by
  rw [L,Below.heap_alloc _ _ _ (by simp;omega),Below.heap_alloc _ _ _ (by simp)]
  exact World.alloc_heap_new _ _
 have I:=(U.block _ (Array.getElem?_eq_some_iff.1 n2).1 (by omega)).trans n2
 have aa:=(U.block _ (Array.getElem?_eq_some_iff.1 n0).1 (by omega)).trans n0
 have M:Hid (zc r w T):=ag.out.trans U;clear n2 n0 U L ag;have c0:T.cell? ⟨w.heap.size+1+1,0,none⟩=some (.int .i64 4):=by simp only [World.cell?,I];rfl
 have c1:T.cell? ⟨w.heap.size+1+1,1,none⟩=some (.string ⟨#[]⟩):=by simp only [World.cell?,I];rfl
 have c2:T.cell? ⟨w.heap.size+1+1,2,none⟩=some (.int .i64 0):=by simp only [World.cell?,I];rfl
 have c3:T.cell? ⟨w.heap.size+1+1,3,none⟩=some (.slice none 0 0):=by simp only [World.cell?,I];rfl
 have c4:T.cell? ⟨w.heap.size+1+1,4,none⟩=some (.int .i64 t.line):=by simp only [World.cell?,I];rfl
 have cf:T.frozen? ⟨w.heap.size+1+1,1,none⟩=false:=by simp only [World.frozen?,I];rfl
 obtain ⟨w4,z⟩:∃w4,w4=T.setCell ⟨w.heap.size+1+1,1,none⟩ (.string (za t.s)):=⟨_,rfl⟩;have d0:w4.cell? ⟨w.heap.size+1+1,0,none⟩=some (.int .i64 4):=by rw [z,World.cell?_setCell_other _ _ _ _ (by simp)];exact c0
 have d1:w4.cell? ⟨w.heap.size+1+1,1,none⟩=some (.string (za t.s)):=by rw [z];exact World.cell?_setCell_same _ _ _ c1
 have d2:w4.cell? ⟨w.heap.size+1+1,2,none⟩=some (.int .i64 0):=by rw [z,World.cell?_setCell_other _ _ _ _ (by simp)];exact c2
 have d3:w4.cell? ⟨w.heap.size+1+1,3,none⟩=some (.slice none 0 0):=by rw [z,World.cell?_setCell_other _ _ _ _ (by simp)];exact c3
 have d4:w4.cell? ⟨w.heap.size+1+1,4,none⟩=some (.int .i64 t.line):=by rw [z,World.cell?_setCell_other _ _ _ _ (by simp)];exact c4
 have y:∀k,k≠w.heap.size+1+1→w4.heap[k]?=T.heap[k]?:=fun k hk=>by rw [z];exact Below.heap_setCell _ _ _ _ (by simpa using hk)
 have h4:zk r g (o+5) (cap-1) (u::us) w4:=h3.keep (y r (by omega)) (y g (by omega))
 have af:Hid (zc r w w4):=⟨by rw [z];exact M.out.os,by rw [z];exact M.out.tape,by rw [z];exact M.out.output,by rw [z];simpa using M.out.size,fun k hk hr=>(y k (by omega)).trans (M.out.block k hk hr)⟩
 have W:=(y w.heap.size (by omega)).trans aa
 have ci:=zaO r g (o+5) (cap-1) u us [40] w4 h4;rw [hu] at ci;have aj:Hid (T.setCell ⟨w.heap.size+1+1,1,none⟩ (.string (za t.s))=w4):=z.symm;obtain ⟨N,A⟩:∃N,N=(w4.alloc (Zf u)).alloc (Zf u):=⟨_,rfl⟩;rw [←A] at ci;have al:Hid (zk r g (o+5) (cap-1) (u::us) N):=by rw [A];exact (h4.alloc _).alloc _
 have am:Hid (zc r w N):=by rw [A];exact (af.out.alloc _).alloc _
 have e0:N.cell? ⟨w.heap.size+1+1,0,none⟩=some (.int .i64 4):=by rw [A];exact zd (zd d0 _) _
 have e1:N.cell? ⟨w.heap.size+1+1,1,none⟩=some (.string (za t.s)):=by rw [A];exact zd (zd d1 _) _
 have e2:N.cell? ⟨w.heap.size+1+1,2,none⟩=some (.int .i64 0):=by rw [A];exact zd (zd d2 _) _
 have e3:N.cell? ⟨w.heap.size+1+1,3,none⟩=some (.slice none 0 0):=by rw [A];exact zd (zd d3 _) _
 have e4:N.cell? ⟨w.heap.size+1+1,4,none⟩=some (.int .i64 t.line):=by rw [A];exact zd (zd d4 _) _
 have ab:w.heap.size<w4.heap.size:=(Array.getElem?_eq_some_iff.1 W).1
 have p0:N.heap[w.heap.size]?=some (.cells #[.int .i64 0,.string ⟨#[]⟩,.int .i64 0,.slice none 0 0,.int .i64 0] 90 (0,0)):=by
  rw [A,Below.heap_alloc _ _ _ (by simp;omega),Below.heap_alloc _ _ _ ab];exact W
 have ao:N.frozen? ⟨w.heap.size+1+1,0,none⟩=false:=by
  have Q:w4.frozen? ⟨w.heap.size+1+1,0,none⟩=false:=by rw [z,World.frozen?_setCell];simp only [World.frozen?,I];rfl
  have O:=World.block_lt_of_cell? w4 _ d0;rw [A];simp only [World.frozen?] at Q ⊢;rw [Below.heap_alloc _ _ _ (by simp;simp at O;omega),Below.heap_alloc _ _ _ O];exact Q
 have ah:N.frozen? ⟨w.heap.size+1+1,3,none⟩=false:=by
  have Q:w4.frozen? ⟨w.heap.size+1+1,3,none⟩=false:=by rw [z,World.frozen?_setCell];simp only [World.frozen?,I];rfl
  have O:=World.block_lt_of_cell? w4 _ d0;rw [A];simp only [World.frozen?] at Q ⊢;rw [Below.heap_alloc _ _ _ (by simp;simp at O;omega),Below.heap_alloc _ _ _ O];exact Q
 clear z y h3 h4 I aa W M af d0 d1 d2 d3 d4 A ab;go_wp2_with fail
 rw [aj.out];refine ci.mono ?_;clear ci c0 c1 c2 c3 c4 cf;rintro e w6 ⟨rfl,rfl⟩;obtain ⟨w7,E⟩:∃w7,w7=w6.setCell ⟨w.heap.size+1+1,0,none⟩ (.int .i64 5):=⟨_,rfl⟩;have ak:Hid (w6.setCell ⟨w.heap.size+1+1,0,none⟩ (.int .i64 5)=w7):=E.symm;have y:∀k,k≠w.heap.size+1+1→w7.heap[k]?=w6.heap[k]?:=fun k hk=>by rw [E];exact Below.heap_setCell _ _ _ _ (by simpa using hk)
 have h7:zk r g (o+5) (cap-1) (u::us) w7:=al.out.keep (y r (by omega)) (y g (by omega))
 have k7:zc r w w7:=by rw [E];exact am.out.setOther (by simp;omega) _
 have ae:Hid (zc r w w7):=k7;have cb:=hbr w7 _ _ h7 k7;have f0:w7.cell? ⟨w.heap.size+1+1,0,none⟩=some (.int .i64 5):=by rw [E];exact World.cell?_setCell_same _ _ _ e0
 have f1:w7.cell? ⟨w.heap.size+1+1,1,none⟩=some (.string (za t.s)):=by rw [E,World.cell?_setCell_other _ _ _ _ (by simp)];exact e1
 have f2:w7.cell? ⟨w.heap.size+1+1,2,none⟩=some (.int .i64 0):=by rw [E,World.cell?_setCell_other _ _ _ _ (by simp)];exact e2
 have f3:w7.cell? ⟨w.heap.size+1+1,3,none⟩=some (.slice none 0 0):=by rw [E,World.cell?_setCell_other _ _ _ _ (by simp)];exact e3
 have f4:w7.cell? ⟨w.heap.size+1+1,4,none⟩=some (.int .i64 t.line):=by rw [E,World.cell?_setCell_other _ _ _ _ (by simp)];exact e4
 have ff:w7.frozen? ⟨w.heap.size+1+1,3,none⟩=false:=by rw [E,World.frozen?_setCell];exact ah
 have p7:=(y w.heap.size (by omega)).trans p0
 clear hbr h7 k7 E y p0;go_wp2_with fail
 rw [ak.out];refine cb.mono ?_;clear cb e0 e1 e2 e3 e4 ao ah;rintro e Y ⟨G,R⟩;subst hres;rcases res with a | ⟨l,ts⟩
 ·obtain rfl:=R
  exact ⟨rfl,ae.out.trans G,rfl⟩
 ·obtain ⟨v,o8,V,rfl,J,ad⟩:=R
  have K:r≠w.heap.size+1+1:=by omega
  have g0:=G.cell (p:=⟨w.heap.size+1+1,0,none⟩) (fun h=>K h.symm) f0
  have g1:=G.cell (p:=⟨w.heap.size+1+1,1,none⟩) (fun h=>K h.symm) f1
  have g2:=G.cell (p:=⟨w.heap.size+1+1,2,none⟩) (fun h=>K h.symm) f2
  have g3:=G.cell (p:=⟨w.heap.size+1+1,3,none⟩) (fun h=>K h.symm) f3
  have g4:=G.cell (p:=⟨w.heap.size+1+1,4,none⟩) (fun h=>K h.symm) f4
  have gf:Y.frozen? ⟨w.heap.size+1+1,3,none⟩=false:=(Xt (p:=⟨w.heap.size+1+1,3,none⟩) (G.block _ (World.block_lt_of_cell? w7 _ f3) (fun h=>K h.symm))).trans ff
  have p8:=(G.block w.heap.size (Array.getElem?_eq_some_iff.1 p7).1 (by omega)).trans p7
  have ap:Hid (zc r w Y):=ae.out.trans G;have av:w.heap.size+1+1<w7.heap.size:=World.block_lt_of_cell? w7 _ f0;obtain ⟨H,D⟩:∃H,H=Y.setCell ⟨w.heap.size+1+1,3,none⟩ v:=⟨_,rfl⟩;have ax:Hid (H=Y.setCell ⟨w.heap.size+1+1,3,none⟩ v):=D;have y:∀k,k≠w.heap.size+1+1→H.heap[k]?=Y.heap[k]?:=fun k hk=>by rw [D];exact Below.heap_setCell _ _ _ _ (by simpa using hk)
  have Z:Y.heap.size≤H.heap.size:=by rw [D];simp
  have ai:Hid (Zw w7.heap.size H l v):=J.kept Z fun k hB _=>y k (by omega)
  have ar:Hid (zk r g o8 V ts H):=ad.keep (y r (by omega)) (y g (by omega))
  have an:Hid (zc r w H):=by rw [D];exact ap.out.setOther (by simp;omega) _
  have X:=(y w.heap.size (by omega)).trans p8
  have i0:H.cell? ⟨w.heap.size+1+1,0,none⟩=some (.int .i64 5):=by rw [D,World.cell?_setCell_other _ _ _ _ (by simp)];exact g0
  have i1:H.cell? ⟨w.heap.size+1+1,1,none⟩=some (.string (za t.s)):=by rw [D,World.cell?_setCell_other _ _ _ _ (by simp)];exact g1
  have i2:H.cell? ⟨w.heap.size+1+1,2,none⟩=some (.int .i64 0):=by rw [D,World.cell?_setCell_other _ _ _ _ (by simp)];exact g2
  have i3:H.cell? ⟨w.heap.size+1+1,3,none⟩=some v:=by rw [D];exact World.cell?_setCell_same _ _ _ g3
  have i4:H.cell? ⟨w.heap.size+1+1,4,none⟩=some (.int .i64 t.line):=by rw [D,World.cell?_setCell_other _ _ _ _ (by simp)];exact g4
  have q0:H.cell? ⟨w.heap.size,0,none⟩=some (.int .i64 0):=by simp only [World.cell?,X];rfl
  have q1:H.cell? ⟨w.heap.size,1,none⟩=some (.string ⟨#[]⟩):=by simp only [World.cell?,X];rfl
  have q2:H.cell? ⟨w.heap.size,2,none⟩=some (.int .i64 0):=by simp only [World.cell?,X];rfl
  have q3:H.cell? ⟨w.heap.size,3,none⟩=some (.slice none 0 0):=by simp only [World.cell?,X];rfl
  have q4:H.cell? ⟨w.heap.size,4,none⟩=some (.int .i64 0):=by simp only [World.cell?,X];rfl
  have qf:∀j,H.frozen? ⟨w.heap.size,j,none⟩=false:=fun j=>by simp only [World.frozen?,X];simp
  have aq:∃a n c,v=.slice a n c:=by
   rcases J with ⟨-,rfl⟩ | ⟨_,_,_,rfl,_⟩
   ·exact ⟨_,_,_,rfl⟩
   ·exact ⟨_,_,_,rfl⟩
  obtain ⟨va,vn,vc,rfl⟩:=aq;clear y J ad f0 f1 f2 f3 f4 ff G p8 g0 g1 g2 g4;have au:=D.symm;clear D;go_wp2
  obtain ⟨z0,z1,z2,z3,z4⟩:=zj X (.int .i64 5) (.string (za t.s)) (.int .i64 0) (.slice va vn vc) (.int .i64 t.line);refine bodyPost_ret (v:=.agg #[.int .i64 5,.string (za t.s),.int .i64 0,.slice va vn vc,.int .i64 t.line]) (by simp [results,Tryz.results176,go_sem,z0,z1,z2,z3,z4]) rfl ⟨Zs an.out (Nat.le_refl _) _ _ _ _ _,_,o8,V,rfl,?_,?_⟩
  ·have J:Zw w7.heap.size (set5 H w.heap.size (.int .i64 5) (.string (za t.s)) (.int .i64 0) (.slice va vn vc) (.int .i64 t.line)) l (.slice va vn vc) :=
    ai.out.kept (by simp) fun k hB _=>zi _ _ _ _ _ _ _ (by omega)
   exact zO.of_row (J.mono (by omega)) 5 t.s 0 t.line
  ·exact ar.out.keep (zi _ _ _ _ _ _ _ (by omega)) (zi _ _ _ _ _ _ _ (by omega))
theorem zJ.agg {S:Nat→Prop} {w:World} {x:Ex} {v:Value} (h:zJ S w x v):∃(a:Int) (b:ByteArray) (c:Int) (d0:Option Addr) (d1 d2:Nat) (e:Int),v=.agg #[.int .i64 a,.string b,.int .i64 c,.slice d0 d1 d2,.int .i64 e]:=by
 cases h with
 | leaf=>exact ⟨_,_,_,_,_,_,_,rfl⟩
 | node=>exact ⟨_,_,_,_,_,_,_,rfl⟩
abbrev zL:Obj:=.cells #[.int .i64 0,.string ⟨#[]⟩,.int .i64 0,.slice none 0 0,.int .i64 0] 90
theorem zaR (r g:Nat) (w:World) (res:PR Ex) (hr:r<w.heap.size) (hgw:g<w.heap.size)
  (hb:Calls Tryz.prog 98 #[.pointer (some ⟨r,0,none⟩),.int .i64 1] (w.alloc zL) (zu r g (w.alloc zL) res)) :
  Calls Tryz.prog 74 #[.pointer (some ⟨r,0,none⟩)] w (zu r g w res):=by
 go_enter Tryz.func74,Tryz.ntmps74
 go_wp2_with fail
 refine hb.mono ?_;clear hb;rintro e w1 ⟨z,h⟩;have J:zc r w w1:=((zc.refl r w).alloc _).trans z;rcases res with a | ⟨x,ts⟩
 ·obtain rfl:=h
  exact ⟨rfl,J,rfl⟩
 ·obtain ⟨v,o,A,rfl,I,D⟩:=h
  obtain ⟨a,b,c,H,E,G,e,rfl⟩:=I.agg;have L:(w.alloc zL).heap.size=w.heap.size+1:=by simp
  have y:w1.heap[w.heap.size]?=some zL:=(z.block w.heap.size (by omega) (by omega)).trans (World.alloc_heap_new w _)
  have q0:w1.cell? ⟨w.heap.size,0,none⟩=some (.int .i64 0):=by simp only [World.cell?,y];rfl
  have Y:w1.cell? ⟨w.heap.size,1,none⟩=some (.string ⟨#[]⟩):=by simp only [World.cell?,y];rfl
  have X:w1.cell? ⟨w.heap.size,2,none⟩=some (.int .i64 0):=by simp only [World.cell?,y];rfl
  have Z:w1.cell? ⟨w.heap.size,3,none⟩=some (.slice none 0 0):=by simp only [World.cell?,y];rfl
  have W:w1.cell? ⟨w.heap.size,4,none⟩=some (.int .i64 0):=by simp only [World.cell?,y];rfl
  have V:∀j,w1.frozen? ⟨w.heap.size,j,none⟩=false:=fun j=>by simp only [World.frozen?,y];simp
  have T:Hid (zO (w.alloc zL).heap.size w1 x (.agg #[.int .i64 a,.string b,.int .i64 c,.slice H E G,.int .i64 e])):=I;have K:Hid (zk r g o A ts w1):=D;have M:Hid (zc r w w1):=J;clear z I D J;go_wp2
  obtain ⟨R,U,O,Q,N⟩:=zj y (.int .i64 a) (.string b) (.int .i64 c) (.slice H E G) (.int .i64 e);refine bodyPost_ret (v:=.agg #[.int .i64 a,.string b,.int .i64 c,.slice H E G,.int .i64 e]) (by simp [results,Tryz.results74,go_sem,R,U,O,Q,N]) rfl ⟨Zs M.out (Nat.le_refl _) _ _ _ _ _,_,o,A,rfl,?_,?_⟩
  ·exact (T.out.kept (w':=set5 w1 w.heap.size (.int .i64 a) (.string b) (.int .i64 c) (.slice H E G) (.int .i64 e)) (by simp) fun k hB _=>zi _ _ _ _ _ _ _ (by omega)).mono (by omega)
  ·exact K.out.keep (zi _ _ _ _ _ _ _ (by omega)) (zi _ _ _ _ _ _ _ (by omega))
end Go.Proofs.YtmbofhpmockmbaaGreatDoor
