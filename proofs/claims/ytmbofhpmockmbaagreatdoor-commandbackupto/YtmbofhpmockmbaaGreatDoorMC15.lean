import Derived.Test.YtmbofhpmockmbaaGreatDoorMC14
namespace Go.Proofs.YtmbofhpmockmbaaGreatDoor
open Go.RowKit Go.Shelf
set_option maxHeartbeats 16000000
set_option maxRecDepth 100000
def uv (t:Tk):Prop:=t.k=1→t.s.length≤1099511627776
def zh:List Tk→Prop
 | []=>False
 | [t]=>t.k=0
 | t::ts=>t.k≠0∧uv t∧zh ts
theorem zh.ne {ts:List Tk} (h:zh ts):ts≠[]:=by cases ts <;> simp [zh] at h ⊢
theorem zh.tail {t:Tk} {ts:List Tk} (h:zh (t::ts)) (hk:t.k≠0):zh ts:=by
 cases ts with
 | nil=>exact absurd h hk
 | cons u us=>exact h.2.2
theorem zf {t:Tk} {s:List UInt8} (h:zn t s=true):t.k≠0:=by
 unfold zn at h
 intro e
 simp [e] at h
theorem zh.cons {ts:List Tk} (h:zh ts):∃t us,ts=t::us:=by
 cases ts with
 | nil=>exact absurd h (by simp [zh])
 | cons t us=>exact ⟨t,us,rfl⟩
theorem ZC {f k least:Nat} {ts:List Tk} {r:PR Ex} (h:zd f least ts=some r):zd (f+k) least ts=some r:=by
 induction k with
 | zero=>exact h
 | succ k ih=>exact (Xr (f+k)).1 _ _ _ ih
theorem ZZ {f f' least:Nat} {ts:List Tk} {r r':PR Ex} (h:zd f least ts=some r) (h':zd f' least ts=some r'):r=r':=by
 have a:=ZC (k:=f') h;have b:=ZC (k:=f) h';rw [Nat.add_comm] at b;exact Option.some.inj (a.symm.trans b)
def zF (S:Nat→Prop) (w:World) (l:List Ex) (v:Value):Prop :=
 (l=[]∧v=.slice none 0 0)∨∃(g cap:Nat) (us:List (List Value)),v=.slice (some ⟨g,0,none⟩) l.length cap∧l≠[]∧us.length=l.length∧S g∧g<w.heap.size∧l.length≤cap∧cap≤maxLen ∧
  (∀j u,us.flatten[j]?=some u→w.cell? ⟨g,j,none⟩=some u)∧(∀c∈us,c.length=5)∧∀(j:Nat) (x:Ex) (c:List Value),l[j]?=some x→us[j]?=some c→zy S w x (.agg c.toArray)
abbrev Zg (B:Nat) (w:World) (l:List Ex) (v:Value):Prop:=zF (fun k=>B≤k) w l v
theorem zF.kept {S:Nat→Prop} {w w':World} {l:List Ex} {v:Value} (h:zF S w l v) (hs:w.heap.size≤w'.heap.size) (hb:∀k,S k→k<w.heap.size→w'.heap[k]?=w.heap[k]?):zF S w' l v:=by
 rcases h with h | ⟨g,z,J,G,A,y,E,D,I,H,e,o,K⟩
 ·exact .inl h
 ·refine .inr ⟨g,z,J,G,A,y,E,Nat.lt_of_lt_of_le D hs,I,H,fun j u hj=>?_,o,fun j x c hx hc'=>zy.kept (K j x c hx hc') hs hb⟩
  rw [World.cell?_of_block (hb g E D)];exact e j u hj
theorem zy.of_row {S:Nat→Prop} {w:World} {l:List Ex} {v:Value} (h:zF S w l v) (k:Nat) (s:List UInt8) (n:Int) (line:Nat):zy S w (.mk k s n l line) (.agg #[.int .i64 k,.string (za s),.int .i64 n,v,.int .i64 line]):=by
 rcases h with ⟨rfl,rfl⟩ | ⟨g,y,G,rfl,z,x,H,A,E,D,e,o,I⟩
 ·exact .leaf k s n line
 ·exact .node k s n l line g y G z x H A E D e o I
theorem zF.wide {S S':Nat→Prop} {w:World} {l:List Ex} {v:Value} (h:zF S w l v) (hS:∀k,S k→S' k):zF S' w l v:=by
 rcases h with h | ⟨g,z,I,D,A,y,J,E,H,G,e,o,K⟩
 ·exact .inl h
 ·exact .inr ⟨g,z,I,D,A,y,hS _ J,E,H,G,e,o,fun j x c hx hc'=>zy.wide (K j x c hx hc') hS⟩
theorem Zg.kept {B:Nat} {w w':World} {l:List Ex} {v:Value} (h:Zg B w l v) (hs:w.heap.size≤w'.heap.size) (hb:∀k,B≤k→k<w.heap.size→w'.heap[k]?=w.heap[k]?):Zg B w' l v:=zF.kept h hs hb
theorem zM.of_row {B:Nat} {w:World} {l:List Ex} {v:Value} (h:Zg B w l v) (k:Nat) (s:List UInt8) (n:Int) (line:Nat):zM B w (.mk k s n l line) (.agg #[.int .i64 k,.string (za s),.int .i64 n,v,.int .i64 line]):=zy.of_row h k s n line
theorem zM.mono {B B':Nat} {w:World} {x:Ex} {v:Value} (h:zM B w x v) (hb:B'≤B):zM B' w x v:=zy.wide h fun _ hk=>Nat.le_trans hb hk
theorem Zg.mono {B B':Nat} {w:World} {l:List Ex} {v:Value} (h:Zg B w l v) (hb:B'≤B):Zg B' w l v:=zF.wide h fun _ hk=>Nat.le_trans hb hk
def zi (r g:Nat) (w:World) (res:PR Ex) (e:Ending) (w':World):Prop :=
 zb r w w'∧match res with
  | .error a=>e=Ze a
  | .ok (x,ts)=>∃v o cap,e=.returned v∧zM w.heap.size w' x v∧zc r g o cap ts w'
def yx (r g:Nat) (w:World) (res:PR (List Ex)) (e:Ending) (w':World):Prop :=
 zb r w w'∧match res with
  | .error a=>e=Ze a
  | .ok (l,ts)=>∃v o cap,e=.returned v∧Zg w.heap.size w' l v∧zc r g o cap ts w'
theorem zb.cell {r:Nat} {w w':World} (h:zb r w w') {p:Addr} {v:Value} (hp:p.block≠r) (hc:w.cell? p=some v):w'.cell? p=some v:=by
 rw [World.cell?_of_block (h.block p.block (World.block_lt_of_cell? w _ hc) hp)];exact hc
abbrev set5 (w:World) (N:Nat) (a b c d e:Value):World:=((((w.setCell ⟨N,0,none⟩ a).setCell ⟨N,1,none⟩ b).setCell ⟨N,2,none⟩ c).setCell ⟨N,3,none⟩ d).setCell ⟨N,4,none⟩ e
theorem zo {w:World} {N:Nat} {x0 x1 x2 x3 x4:Value} {ty:TypeId} (h:w.heap[N]?=some (.cells #[x0,x1,x2,x3,x4] ty (0,0))) (a b c d e:Value) :
  (set5 w N a b c d e).cell? ⟨N,0,none⟩=some a∧(set5 w N a b c d e).cell? ⟨N,1,none⟩=some b∧(set5 w N a b c d e).cell? ⟨N,2,none⟩=some c∧(set5 w N a b c d e).cell? ⟨N,3,none⟩=some d∧(set5 w N a b c d e).cell? ⟨N,4,none⟩=some e:=by
 have o:w.cell? ⟨N,0,none⟩=some x0:=by simp only [World.cell?,h];rfl
 have x:w.cell? ⟨N,1,none⟩=some x1:=by simp only [World.cell?,h];rfl
 have z:w.cell? ⟨N,2,none⟩=some x2:=by simp only [World.cell?,h];rfl
 have A:w.cell? ⟨N,3,none⟩=some x3:=by simp only [World.cell?,h];rfl
 have y:w.cell? ⟨N,4,none⟩=some x4:=by simp only [World.cell?,h];rfl
 refine ⟨?_,?_,?_,?_,?_⟩
 ·rw [World.cell?_setCell_other _ _ _ _ (by simp),World.cell?_setCell_other _ _ _ _ (by simp),World.cell?_setCell_other _ _ _ _ (by simp),World.cell?_setCell_other _ _ _ _ (by simp)]
  exact World.cell?_setCell_same _ _ _ o
 ·rw [World.cell?_setCell_other _ _ _ _ (by simp),World.cell?_setCell_other _ _ _ _ (by simp),World.cell?_setCell_other _ _ _ _ (by simp)]
  exact World.cell?_setCell_same _ _ _ ((World.cell?_setCell_other _ _ _ _ (by simp)).trans x)
 ·rw [World.cell?_setCell_other _ _ _ _ (by simp),World.cell?_setCell_other _ _ _ _ (by simp)]
  exact World.cell?_setCell_same _ _ _ ((World.cell?_setCell_other _ _ _ _ (by simp)).trans ((World.cell?_setCell_other _ _ _ _ (by simp)).trans z))
 ·rw [World.cell?_setCell_other _ _ _ _ (by simp)]
  exact World.cell?_setCell_same _ _ _ ((World.cell?_setCell_other _ _ _ _ (by simp)).trans ((World.cell?_setCell_other _ _ _ _ (by simp)).trans ((World.cell?_setCell_other _ _ _ _ (by simp)).trans A)))
 ·exact World.cell?_setCell_same _ _ _ ((World.cell?_setCell_other _ _ _ _ (by simp)).trans ((World.cell?_setCell_other _ _ _ _ (by simp)).trans ((World.cell?_setCell_other _ _ _ _ (by simp)).trans ((World.cell?_setCell_other _ _ _ _ (by simp)).trans y))))
theorem zg (w:World) (N:Nat) (a b c d e:Value) {k:Nat} (hk:k≠N):(set5 w N a b c d e).heap[k]?=w.heap[k]?:=by
 rw [Below.heap_setCell _ _ _ _ (by simpa using hk),Below.heap_setCell _ _ _ _ (by simpa using hk),Below.heap_setCell _ _ _ _ (by simpa using hk),Below.heap_setCell _ _ _ _ (by simpa using hk),Below.heap_setCell _ _ _ _ (by simpa using hk)]
theorem Zk {r:Nat} {w0 w:World} {N:Nat} (h:zb r w0 w) (hN:w0.heap.size≤N) (a b c d e:Value):zb r w0 (set5 w N a b c d e):=by
 have o:Below 0 w (set5 w N a b c d e):=(((((Below.refl 0 w).setCell (p:=⟨N,0,none⟩) (Nat.zero_le _) a).setCell (p:=⟨N,1,none⟩) (Nat.zero_le _) b).setCell (p:=⟨N,2,none⟩) (Nat.zero_le _) c).setCell (p:=⟨N,3,none⟩) (Nat.zero_le _) d).setCell (p:=⟨N,4,none⟩) (Nat.zero_le _) e;exact ⟨o.os.trans h.os,o.tape.trans h.tape,o.output.trans h.output,Nat.le_trans h.size o.size,fun k hk hr=>(zg w N a b c d e (by omega)).trans (h.block k hk hr)⟩
theorem xP (r g o cap:Nat) (t u:Tk) (us:List Tk) (w:World) (h:zc r g o cap (t::u::us) w) (hk:t.k=1) (hu:zn u [40]=false) :
  Calls Tryz.prog 176 #[.pointer (some ⟨r,0,none⟩)] w (zi r g w (.ok (.mk 4 t.s 0 [] t.line,u::us))):=by
 have hf:=Yo;have hr:=h.lt.1;have aa:=h.lt.2;have Z:=h.alloc (.cells #[.int .i64 0,.string ⟨#[]⟩,.int .i64 0,.slice none 0 0,.int .i64 0] 90);have ch:=zZ r g o cap t (u::us) _ Z;obtain ⟨w2,E⟩:∃w2,w2=((w.alloc (.cells #[.int .i64 0,.string ⟨#[]⟩,.int .i64 0,.slice none 0 0,.int .i64 0] 90)).alloc (zE t)).alloc (.cells #[.int .i64 4,.string ⟨#[]⟩,.int .i64 0,.slice none 0 0,.int .i64 t.line] 90):=⟨_,rfl⟩;have h2:zc r g o cap (t::u::us) w2:=by rw [E];exact (Z.alloc _).alloc _
 have M:Hid (zb r w w2):=by rw [E];exact (((zb.refl r w).alloc _).alloc _).alloc _
 have U:=xj r g o cap t (u::us) w2 h2 (fun _=>by simp)
 simp only [hk,if_true] at U;clear h Z h2
 go_enter Tryz.func176,Tryz.ntmps176
 go_wp2_with fail
 refine ch.mono ?_;clear ch;rintro e w1 ⟨rfl,rfl⟩;simp only [YA];go_wp2_with fail
 rw [←E];refine U.mono ?_;clear U;rintro e H ⟨I,rfl,h3⟩
 have Y:w2.heap[w.heap.size+1+1]?=some (.cells #[.int .i64 4,.string ⟨#[]⟩,.int .i64 0,.slice none 0 0,.int .i64 t.line] 90 (0,0)):=by
  have hx:=World.alloc_heap_new ((w.alloc (.cells #[.int .i64 0,.string ⟨#[]⟩,.int .i64 0,.slice none 0 0,.int .i64 0] 90)).alloc (zE t)) (.cells #[.int .i64 4,.string ⟨#[]⟩,.int .i64 0,.slice none 0 0,.int .i64 t.line] 90);rw [←E,show ((w.alloc (.cells #[.int .i64 0,.string ⟨#[]⟩,.int .i64 0,.slice none 0 0,.int .i64 0] 90)).alloc (zE t)).heap.size=w.heap.size+1+1 by simp] at hx
  exact hx
 have T:w2.heap[w.heap.size]?=some (.cells #[.int .i64 0,.string ⟨#[]⟩,.int .i64 0,.slice none 0 0,.int .i64 0] 90 (0,0)):=by
  rw [E,Below.heap_alloc _ _ _ (by simp;omega),Below.heap_alloc _ _ _ (by simp)]
  exact World.alloc_heap_new _ _
 have A:=(I.block _ (Array.getElem?_eq_some_iff.1 Y).1 (by omega)).trans Y
 have O:=(I.block _ (Array.getElem?_eq_some_iff.1 T).1 (by omega)).trans T
 have D:Hid (zb r w H):=M.out.trans I;clear Y T I E M;have c0:H.cell? ⟨w.heap.size+1+1,0,none⟩=some (.int .i64 4):=by simp only [World.cell?,A];rfl
 have c1:H.cell? ⟨w.heap.size+1+1,1,none⟩=some (.string ⟨#[]⟩):=by simp only [World.cell?,A];rfl
 have c2:H.cell? ⟨w.heap.size+1+1,2,none⟩=some (.int .i64 0):=by simp only [World.cell?,A];rfl
 have c3:H.cell? ⟨w.heap.size+1+1,3,none⟩=some (.slice none 0 0):=by simp only [World.cell?,A];rfl
 have c4:H.cell? ⟨w.heap.size+1+1,4,none⟩=some (.int .i64 t.line):=by simp only [World.cell?,A];rfl
 have cf:H.frozen? ⟨w.heap.size+1+1,1,none⟩=false:=by simp only [World.frozen?,A];rfl
 obtain ⟨w4,x⟩:∃w4,w4=H.setCell ⟨w.heap.size+1+1,1,none⟩ (.string (za t.s)):=⟨_,rfl⟩;have d0:w4.cell? ⟨w.heap.size+1+1,0,none⟩=some (.int .i64 4):=by rw [x,World.cell?_setCell_other _ _ _ _ (by simp)];exact c0
 have d1:w4.cell? ⟨w.heap.size+1+1,1,none⟩=some (.string (za t.s)):=by rw [x];exact World.cell?_setCell_same _ _ _ c1
 have d2:w4.cell? ⟨w.heap.size+1+1,2,none⟩=some (.int .i64 0):=by rw [x,World.cell?_setCell_other _ _ _ _ (by simp)];exact c2
 have d3:w4.cell? ⟨w.heap.size+1+1,3,none⟩=some (.slice none 0 0):=by rw [x,World.cell?_setCell_other _ _ _ _ (by simp)];exact c3
 have d4:w4.cell? ⟨w.heap.size+1+1,4,none⟩=some (.int .i64 t.line):=by rw [x,World.cell?_setCell_other _ _ _ _ (by simp)];exact c4
 have y:∀k,k≠w.heap.size+1+1→w4.heap[k]?=H.heap[k]?:=fun k hk=>by rw [x];exact Below.heap_setCell _ _ _ _ (by simpa using hk)
 have X:zc r g (o+5) (cap-1) (u::us) w4:=h3.keep (y r (by omega)) (y g (by omega))
 have Q:Hid (zb r w w4):=⟨by rw [x];exact D.out.os,by rw [x];exact D.out.tape,by rw [x];exact D.out.output,by rw [x];simpa using D.out.size,fun k hk hr=>(y k (by omega)).trans (D.out.block k hk hr)⟩
 have J:=(y w.heap.size (by omega)).trans O
 have S:=VQ r g (o+5) (cap-1) u us [40] w4 X;rw [hu] at S;have N:Hid (H.setCell ⟨w.heap.size+1+1,1,none⟩ (.string (za t.s))=w4):=x.symm;obtain ⟨G,z⟩:∃G,G=(w4.alloc (zE u)).alloc (zE u):=⟨_,rfl⟩;rw [←z] at S;have V:Hid (zc r g (o+5) (cap-1) (u::us) G):=by rw [z];exact (X.alloc _).alloc _
 have W:Hid (zb r w G):=by rw [z];exact (Q.out.alloc _).alloc _
 have e0:G.cell? ⟨w.heap.size+1+1,0,none⟩=some (.int .i64 4):=by rw [z];exact ze (ze d0 _) _
 have e1:G.cell? ⟨w.heap.size+1+1,1,none⟩=some (.string (za t.s)):=by rw [z];exact ze (ze d1 _) _
 have e2:G.cell? ⟨w.heap.size+1+1,2,none⟩=some (.int .i64 0):=by rw [z];exact ze (ze d2 _) _
 have e3:G.cell? ⟨w.heap.size+1+1,3,none⟩=some (.slice none 0 0):=by rw [z];exact ze (ze d3 _) _
 have e4:G.cell? ⟨w.heap.size+1+1,4,none⟩=some (.int .i64 t.line):=by rw [z];exact ze (ze d4 _) _
 have R:w.heap.size<w4.heap.size:=(Array.getElem?_eq_some_iff.1 J).1
 have K:G.heap[w.heap.size]?=some (.cells #[.int .i64 0,.string ⟨#[]⟩,.int .i64 0,.slice none 0 0,.int .i64 0] 90 (0,0)):=by
  rw [z,Below.heap_alloc _ _ _ (by simp;omega),Below.heap_alloc _ _ _ R];exact J
 clear x y h3 X A O J D Q d0 d1 d2 d3 d4 z R;go_wp2_with fail
 rw [N.out];refine S.mono ?_;clear S c0 c1 c2 c3 c4 cf;rintro e L ⟨rfl,rfl⟩;have q0:L.cell? ⟨w.heap.size,0,none⟩=some (.int .i64 0):=by simp only [World.cell?,K];rfl
 have q1:L.cell? ⟨w.heap.size,1,none⟩=some (.string ⟨#[]⟩):=by simp only [World.cell?,K];rfl
 have q2:L.cell? ⟨w.heap.size,2,none⟩=some (.int .i64 0):=by simp only [World.cell?,K];rfl
 have q3:L.cell? ⟨w.heap.size,3,none⟩=some (.slice none 0 0):=by simp only [World.cell?,K];rfl
 have q4:L.cell? ⟨w.heap.size,4,none⟩=some (.int .i64 0):=by simp only [World.cell?,K];rfl
 have qf:∀j,L.frozen? ⟨w.heap.size,j,none⟩=false:=fun j=>by simp only [World.frozen?,K];simp
 go_wp2
 obtain ⟨z0,z1,z2,z3,z4⟩:=zo K (.int .i64 4) (.string (za t.s)) (.int .i64 0) (.slice none 0 0) (.int .i64 t.line);refine bodyPost_ret (v:=.agg #[.int .i64 4,.string (za t.s),.int .i64 0,.slice none 0 0,.int .i64 t.line]) (by simp [results,Tryz.results176,go_sem,z0,z1,z2,z3,z4]) rfl ⟨Zk W.out (Nat.le_refl _) _ _ _ _ _,_,o+5,cap-1,rfl,.leaf 4 t.s 0 t.line,?_⟩
 exact V.out.keep (zg _ _ _ _ _ _ _ (by omega)) (zg _ _ _ _ _ _ _ (by omega))
end Go.Proofs.YtmbofhpmockmbaaGreatDoor
