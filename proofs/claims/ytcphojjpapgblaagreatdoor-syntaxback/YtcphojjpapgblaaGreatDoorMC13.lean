import Derived.Test.YtcphojjpapgblaaGreatDoorMC6
namespace Go.Proofs.YtcphojjpapgblaaGreatDoor
open Go.RowKit Go.Shelf
set_option maxHeartbeats 16000000
set_option maxRecDepth 100000
def Ex.line:Ex→Nat | .mk _ _ _ _ l=>l
def Ex.kind:Ex→Nat | .mk k _ _ _ _=>k
def zu:List Tk→Tk | t::_=>t | []=>⟨0,[],0,0,0⟩
abbrev PR (α:Type):=Except Nat (α × List Tk)
def zh {α β:Type} (x:Option (PR α)) (k:α→List Tk→Option (PR β)):Option (PR β) :=
 match x with
 | none=>none
 | some (.error a)=>some (.error a)
 | some (.ok (y,ts))=>k y ts
def zR (s:List UInt8) (ts:List Tk):Option (PR Unit):=some (if zm (zu ts) s=true then .ok ((),ts.tail) else .error (zu ts).at0)
def Z6 (ts:List Tk):Option (PR (List UInt8)):=some (if (zu ts).k=1 then .ok ((zu ts).s,ts.tail) else .error (zu ts).at0)
mutual
def zg:Nat→Nat→List Tk→Option (PR Ex)
 | 0,_,_=>none
 | f+1,least,ts=>if 6<least then Zm f ts else zh (zg f (least+1) ts) fun e ts=>Zs f least e ts
def Zs:Nat→Nat→Ex→List Tk→Option (PR Ex)
 | 0,_,_,_=>none
 | f+1,least,e,ts=>if (zu ts).k=4∧levelOf (zu ts).s=least then zh (zg f (least+1) ts.tail) fun e2 ts'=>Zs f least (.mk 7 (zu ts).s 0 [e,e2] e.line) ts' else some (.ok (e,ts))
def Zm:Nat→List Tk→Option (PR Ex)
 | 0,_=>none
 | f+1,ts=>if (zu ts).k=4∧((zu ts).s=[45]∨(zu ts).s=[33]) then zh (Zm f ts.tail) fun e ts'=>some (.ok (.mk 6 (zu ts).s 0 [e] (zu ts).line,ts')) else zh (zH f ts) fun e ts=>zx f e ts
def zx:Nat→Ex→List Tk→Option (PR Ex)
 | 0,_,_=>none
 | f+1,e,ts =>
  if zm (zu ts) [91]=true then zh (zg f 1 ts.tail) fun i ts=>zh (zR [93] ts) fun _ ts=>zx f (.mk 8 [] 0 [e,i] e.line) ts
  else if zm (zu ts) [46]=true then zh (Z6 ts.tail) fun s ts=>zx f (.mk 9 s 0 [e] e.line) ts
  else some (.ok (e,ts))
def zH:Nat→List Tk→Option (PR Ex)
 | 0,_=>none
 | f+1,ts =>
  if (zu ts).k=2 then some (.ok (.mk 1 [] (zu ts).n [] (zu ts).line,ts.tail))
  else if (zu ts).k=3 then some (.ok (.mk 3 (zu ts).s 0 [] (zu ts).line,ts.tail))
  else if (zu ts).k=1 then
   if zm (zu ts.tail) [40]=true then zh (zG f ts.tail) fun l ts'=>some (.ok (.mk 5 (zu ts).s 0 l (zu ts).line,ts')) else some (.ok (.mk 4 (zu ts).s 0 [] (zu ts).line,ts.tail))
  else if zm (zu ts) [116,114,117,101]=true then some (.ok (.mk 2 [] 1 [] (zu ts).line,ts.tail))
  else if zm (zu ts) [102,97,108,115,101]=true then some (.ok (.mk 2 [] 0 [] (zu ts).line,ts.tail))
  else if zm (zu ts) [110,101,119]=true then zh (Z6 ts.tail) fun s ts'=>zh (zG f ts') fun l ts'=>some (.ok (.mk 11 s 0 l (zu ts).line,ts'))
  else if zm (zu ts) [91]=true then zh (Z1 f [] ts.tail) fun l ts'=>zh (zR [93] ts') fun _ ts'=>some (.ok (.mk 10 [] 0 l (zu ts).line,ts'))
  else zh (zR [40] ts) fun _ ts=>zh (zg f 1 ts) fun e ts=>zh (zR [41] ts) fun _ ts=>some (.ok (e,ts))
def Z1:Nat→List Ex→List Tk→Option (PR (List Ex))
 | 0,_,_=>none
 | f+1,pre,ts=>zh (zg f 1 ts) fun e ts=>if zm (zu ts) [44]=true then Z1 f (pre++[e]) ts.tail else some (.ok (pre++[e],ts))
def zG:Nat→List Tk→Option (PR (List Ex))
 | 0,_=>none
 | f+1,ts=>zh (zR [40] ts) fun _ ts=>if zm (zu ts) [41]=true then some (.ok ([],ts.tail)) else zh (Z1 f [] ts) fun l ts=>zh (zR [41] ts) fun _ ts=>some (.ok (l,ts))
end
theorem zE {α β:Type} {x y:Option (PR α)} {k l:α→List Tk→Option (PR β)} {r:PR β} (h:zh x k=some r) (hx:∀r,x=some r→y=some r) (hk:∀a ts r,k a ts=some r→l a ts=some r):zh y l=some r:=by
 unfold zh at h ⊢
 cases x with
 | none=>cases h
 | some x =>
  rw [hx x rfl];cases x with
  | error a=>exact h
  | ok p=>exact hk _ _ _ h
theorem Yk (f:Nat) :
  (∀least ts r,zg f least ts=some r→zg (f+1) least ts=some r)∧(∀least e ts r,Zs f least e ts=some r→Zs (f+1) least e ts=some r) ∧
  (∀ts r,Zm f ts=some r→Zm (f+1) ts=some r)∧(∀e ts r,zx f e ts=some r→zx (f+1) e ts=some r)∧(∀ts r,zH f ts=some r→zH (f+1) ts=some r) ∧
  (∀pre ts r,Z1 f pre ts=some r→Z1 (f+1) pre ts=some r)∧(∀ts r,zG f ts=some r→zG (f+1) ts=some r):=by
 induction f with
 | zero=>refine ⟨?_,?_,?_,?_,?_,?_,?_⟩ <;> intros <;> rename_i h <;> simp [zg,Zs,Zm,zx,zH,Z1,zG] at h
 | succ f ih =>
  obtain ⟨y,D,H,z,I,A,G⟩:=ih;refine ⟨fun least ts r h=>?_,fun least e ts r h=>?_,fun ts r h=>?_,fun e ts r h=>?_,fun ts r h=>?_,fun pre ts r h=>?_,fun ts r h=>?_⟩
  ·rw [zg] at h ⊢
   split at h
   ·rename_i o;rw [if_pos o];exact H _ _ h
   ·rename_i o;rw [if_neg o];exact zE h (y _ _) fun a ts r=>D _ _ _ _
  ·rw [Zs] at h ⊢
   split at h
   ·rename_i o;rw [if_pos o];exact zE h (y _ _) fun a ts r=>D _ _ _ _
   ·rename_i o;rw [if_neg o];exact h
  ·rw [Zm] at h ⊢
   split at h
   ·rename_i o;rw [if_pos o];exact zE h (H _) fun a ts r h=>h
   ·rename_i o;rw [if_neg o];exact zE h (I _) fun a ts r=>z _ _ _
  ·rw [zx] at h ⊢
   split at h
   ·rename_i o;rw [if_pos o];exact zE h (y _ _) fun a ts r h=>zE h (fun _ h=>h) fun a ts r=>z _ _ _
   ·rename_i o;rw [if_neg o]
    split at h
    ·rename_i o;rw [if_pos o];exact zE h (fun _ h=>h) fun a ts r=>z _ _ _
    ·rename_i o;rw [if_neg o];exact h
  ·rw [zH] at h ⊢
   repeat' split at h
   all_goals simp_all only [if_true,if_false,Bool.false_eq_true]
   all_goals first
    | exact h
    | exact zE h (G _) fun a ts r h=>h
    | exact zE h (fun _ h=>h) fun a ts r h=>zE h (G _) fun a ts r h=>h
    | exact zE h (A _ _) fun a ts r h=>zE h (fun _ h=>h) fun a ts r h=>h
    | exact zE h (fun _ h=>h) fun a ts r h=>zE h (y _ _) fun a ts r h=>zE h (fun _ h=>h) fun a ts r h=>h
  ·rw [Z1] at h ⊢
   refine zE h (y _ _) fun a ts r h=>?_
   split at h
   ·rename_i o;rw [if_pos o];exact A _ _ _ h
   ·rename_i o;rw [if_neg o];exact h
  ·rw [zG] at h ⊢
   refine zE h (fun _ h=>h) fun a ts r h=>?_
   split at h
   ·rename_i o;rw [if_pos o];exact h
   ·rename_i o;rw [if_neg o];exact zE h (A _ _) fun a ts r h=>h
def NmT (t:Tk):Prop:=t.k=1→t.s.length≤1099511627776
def zi:List Tk→Prop
 | []=>False
 | [t]=>t.k=0
 | t::ts=>t.k≠0∧NmT t∧zi ts
theorem zi.ne {ts:List Tk} (h:zi ts):ts≠[]:=by cases ts <;> simp [zi] at h ⊢
theorem zi.tail {t:Tk} {ts:List Tk} (h:zi (t::ts)) (hk:t.k≠0):zi ts:=by
 cases ts with
 | nil=>exact absurd h hk
 | cons u us=>exact h.2.2
theorem zi.names {ts:List Tk} (h:zi ts):∀t∈ts,NmT t:=by
 induction ts with
 | nil=>intro t o;cases o
 | cons u us ih =>
  intro t o;cases us with
  | nil =>
   simp only [List.mem_singleton] at o;subst o;intro z;have y:t.k=0:=h;omega
  | cons v vs =>
   rcases List.mem_cons.1 o with rfl | o
   ·exact h.2.1
   ·exact ih h.2.2 t o
theorem zk {t:Tk} {s:List UInt8} (h:zm t s=true):t.k≠0:=by
 unfold zm at h
 intro o
 simp [o] at h
theorem zi.cons {ts:List Tk} (h:zi ts):∃t us,ts=t::us:=by
 cases ts with
 | nil=>exact absurd h (by simp [zi])
 | cons t us=>exact ⟨t,us,rfl⟩
theorem YW {f k least:Nat} {ts:List Tk} {r:PR Ex} (h:zg f least ts=some r):zg (f+k) least ts=some r:=by
 induction k with
 | zero=>exact h
 | succ k ih=>exact (Yk (f+k)).1 _ _ _ ih
theorem YQ {f f' least:Nat} {ts:List Tk} {r r':PR Ex} (h:zg f least ts=some r) (h':zg f' least ts=some r'):r=r':=by
 have a:=YW (k:=f') h;have b:=YW (k:=f) h';rw [Nat.add_comm] at b;exact Option.some.inj (a.symm.trans b)
def zK (S:Nat→Prop) (w:World) (l:List Ex) (v:Value):Prop :=
 (l=[]∧v=.slice none 0 0)∨∃(g cap:Nat) (us:List (List Value)),v=.slice (some ⟨g,0,none⟩) l.length cap∧l≠[]∧us.length=l.length∧S g∧g<w.heap.size∧l.length≤cap∧cap≤maxLen ∧
  (∀j u,us.flatten[j]?=some u→w.cell? ⟨g,j,none⟩=some u)∧(∀c∈us,c.length=5)∧∀(j:Nat) (x:Ex) (c:List Value),l[j]?=some x→us[j]?=some c→zX S w x (.agg c.toArray)
abbrev yV (B:Nat) (w:World) (l:List Ex) (v:Value):Prop:=zK (fun k=>B≤k) w l v
theorem zK.kept {S:Nat→Prop} {w w':World} {l:List Ex} {v:Value} (h:zK S w l v) (hs:w.heap.size≤w'.heap.size) (hb:∀k,S k→k<w.heap.size→w'.heap[k]?=w.heap[k]?):zK S w' l v:=by
 rcases h with h | ⟨g,A,I,O,D,z,G,H,J,N,o,y,L⟩
 ·exact .inl h
 ·refine .inr ⟨g,A,I,O,D,z,G,Nat.lt_of_lt_of_le H hs,J,N,fun j u hj=>?_,y,fun j x c hx hc'=>zX.kept (L j x c hx hc') hs hb⟩
  rw [World.cell?_of_block (hb g G H)];exact o j u hj
theorem zX.of_row {S:Nat→Prop} {w:World} {l:List Ex} {v:Value} (h:zK S w l v) (k:Nat) (s:List UInt8) (n:Int) (line:Nat):zX S w (.mk k s n l line) (.agg #[.int .i64 k,.string (zb s),.int .i64 n,v,.int .i64 line]):=by
 rcases h with ⟨rfl,rfl⟩ | ⟨g,A,G,rfl,D,z,H,N,I,L,o,y,J⟩
 ·exact .leaf k s n line
 ·exact .node k s n l line g A G D z H N I L o y J
theorem zK.wide {S S':Nat→Prop} {w:World} {l:List Ex} {v:Value} (h:zK S w l v) (hS:∀k,S k→S' k):zK S' w l v:=by
 rcases h with h | ⟨g,A,G,N,D,z,H,O,I,L,o,y,J⟩
 ·exact .inl h
 ·exact .inr ⟨g,A,G,N,D,z,hS _ H,O,I,L,o,y,fun j x c hx hc'=>zX.wide (J j x c hx hc') hS⟩
theorem yV.kept {B:Nat} {w w':World} {l:List Ex} {v:Value} (h:yV B w l v) (hs:w.heap.size≤w'.heap.size) (hb:∀k,B≤k→k<w.heap.size→w'.heap[k]?=w.heap[k]?):yV B w' l v:=zK.kept h hs hb
theorem ZI.of_row {B:Nat} {w:World} {l:List Ex} {v:Value} (h:yV B w l v) (k:Nat) (s:List UInt8) (n:Int) (line:Nat):ZI B w (.mk k s n l line) (.agg #[.int .i64 k,.string (zb s),.int .i64 n,v,.int .i64 line]):=zX.of_row h k s n line
theorem ZI.mono {B B':Nat} {w:World} {x:Ex} {v:Value} (h:ZI B w x v) (hb:B'≤B):ZI B' w x v:=zX.wide h fun _ hk=>Nat.le_trans hb hk
theorem yV.mono {B B':Nat} {w:World} {l:List Ex} {v:Value} (h:yV B w l v) (hb:B'≤B):yV B' w l v:=zK.wide h fun _ hk=>Nat.le_trans hb hk
def zJ (r g:Nat) (w:World) (res:PR Ex) (e:Ending) (w':World):Prop :=
 zc r w w'∧match res with
  | .error a=>e=ZG a
  | .ok (x,ts)=>∃v o cap,e=.returned v∧ZI w.heap.size w' x v∧zf r g o cap ts w'
def vP (r g:Nat) (w:World) (res:PR (List Ex)) (e:Ending) (w':World):Prop :=
 zc r w w'∧match res with
  | .error a=>e=ZG a
  | .ok (l,ts)=>∃v o cap,e=.returned v∧yV w.heap.size w' l v∧zf r g o cap ts w'
theorem zc.cell {r:Nat} {w w':World} (h:zc r w w') {p:Addr} {v:Value} (hp:p.block≠r) (hc:w.cell? p=some v):w'.cell? p=some v:=by
 rw [World.cell?_of_block (h.block p.block (World.block_lt_of_cell? w _ hc) hp)];exact hc
abbrev set5 (w:World) (N:Nat) (a b c d e:Value):World:=((((w.setCell ⟨N,0,none⟩ a).setCell ⟨N,1,none⟩ b).setCell ⟨N,2,none⟩ c).setCell ⟨N,3,none⟩ d).setCell ⟨N,4,none⟩ e
theorem zY {w:World} {N:Nat} {x0 x1 x2 x3 x4:Value} {ty:TypeId} (h:w.heap[N]?=some (.cells #[x0,x1,x2,x3,x4] ty (0,0))) (a b c d e:Value) :
  (set5 w N a b c d e).cell? ⟨N,0,none⟩=some a∧(set5 w N a b c d e).cell? ⟨N,1,none⟩=some b∧(set5 w N a b c d e).cell? ⟨N,2,none⟩=some c∧(set5 w N a b c d e).cell? ⟨N,3,none⟩=some d∧(set5 w N a b c d e).cell? ⟨N,4,none⟩=some e:=by
 have y:w.cell? ⟨N,0,none⟩=some x0:=by simp only [World.cell?,h];rfl
 have z:w.cell? ⟨N,1,none⟩=some x1:=by simp only [World.cell?,h];rfl
 have D:w.cell? ⟨N,2,none⟩=some x2:=by simp only [World.cell?,h];rfl
 have A:w.cell? ⟨N,3,none⟩=some x3:=by simp only [World.cell?,h];rfl
 have o:w.cell? ⟨N,4,none⟩=some x4:=by simp only [World.cell?,h];rfl
 refine ⟨?_,?_,?_,?_,?_⟩
 ·rw [World.cell?_setCell_other _ _ _ _ (by simp),World.cell?_setCell_other _ _ _ _ (by simp),World.cell?_setCell_other _ _ _ _ (by simp),World.cell?_setCell_other _ _ _ _ (by simp)]
  exact World.cell?_setCell_same _ _ _ y
 ·rw [World.cell?_setCell_other _ _ _ _ (by simp),World.cell?_setCell_other _ _ _ _ (by simp),World.cell?_setCell_other _ _ _ _ (by simp)]
  exact World.cell?_setCell_same _ _ _ ((World.cell?_setCell_other _ _ _ _ (by simp)).trans z)
 ·rw [World.cell?_setCell_other _ _ _ _ (by simp),World.cell?_setCell_other _ _ _ _ (by simp)]
  exact World.cell?_setCell_same _ _ _ ((World.cell?_setCell_other _ _ _ _ (by simp)).trans ((World.cell?_setCell_other _ _ _ _ (by simp)).trans D))
 ·rw [World.cell?_setCell_other _ _ _ _ (by simp)]
  exact World.cell?_setCell_same _ _ _ ((World.cell?_setCell_other _ _ _ _ (by simp)).trans ((World.cell?_setCell_other _ _ _ _ (by simp)).trans ((World.cell?_setCell_other _ _ _ _ (by simp)).trans A)))
 ·exact World.cell?_setCell_same _ _ _ ((World.cell?_setCell_other _ _ _ _ (by simp)).trans ((World.cell?_setCell_other _ _ _ _ (by simp)).trans ((World.cell?_setCell_other _ _ _ _ (by simp)).trans ((World.cell?_setCell_other _ _ _ _ (by simp)).trans o))))
theorem zr (w:World) (N:Nat) (a b c d e:Value) {k:Nat} (hk:k≠N):(set5 w N a b c d e).heap[k]?=w.heap[k]?:=by
 rw [Below.heap_setCell _ _ _ _ (by simpa using hk),Below.heap_setCell _ _ _ _ (by simpa using hk),Below.heap_setCell _ _ _ _ (by simpa using hk),Below.heap_setCell _ _ _ _ (by simpa using hk),Below.heap_setCell _ _ _ _ (by simpa using hk)]
theorem ZN {r:Nat} {w0 w:World} {N:Nat} (h:zc r w0 w) (hN:w0.heap.size≤N) (a b c d e:Value):zc r w0 (set5 w N a b c d e):=by
 have o:Below 0 w (set5 w N a b c d e):=(((((Below.refl 0 w).setCell (p:=⟨N,0,none⟩) (Nat.zero_le _) a).setCell (p:=⟨N,1,none⟩) (Nat.zero_le _) b).setCell (p:=⟨N,2,none⟩) (Nat.zero_le _) c).setCell (p:=⟨N,3,none⟩) (Nat.zero_le _) d).setCell (p:=⟨N,4,none⟩) (Nat.zero_le _) e;exact ⟨o.os.trans h.os,o.tape.trans h.tape,o.output.trans h.output,Nat.le_trans h.size o.size,fun k hk hr=>(zr w N a b c d e (by omega)).trans (h.block k hk hr)⟩
theorem zaY (r g o cap:Nat) (t u:Tk) (us:List Tk) (w:World) (h:zf r g o cap (t::u::us) w) (hk:t.k=1) (hu:zm u [40]=false) :
  Calls Tryz.prog 192 #[.pointer (some ⟨r,0,none⟩)] w (zJ r g w (.ok (.mk 4 t.s 0 [] t.line,u::us))):=by
 have hf:=Xu;have hr:=h.lt.1;have ab:=h.lt.2;have h0:=h.alloc (.cells #[.int .i64 0,.string ⟨#[]⟩,.int .i64 0,.slice none 0 0,.int .i64 0] 45);have ch:=Z8 r g o cap t (u::us) _ h0;obtain ⟨w2,H⟩:∃w2,w2=((w.alloc (.cells #[.int .i64 0,.string ⟨#[]⟩,.int .i64 0,.slice none 0 0,.int .i64 0] 45)).alloc (ZL t)).alloc (.cells #[.int .i64 4,.string ⟨#[]⟩,.int .i64 0,.slice none 0 0,.int .i64 t.line] 45):=⟨_,rfl⟩;have h2:zf r g o cap (t::u::us) w2:=by rw [H];exact (h0.alloc _).alloc _
 have W:Hid (zc r w w2):=by rw [H];exact (((zc.refl r w).alloc _).alloc _).alloc _
 have Z:=xu r g o cap t (u::us) w2 h2 (fun _=>by simp)
 simp only [hk,if_true] at Z;clear h h0 h2
 go_enter Tryz.func192,Tryz.ntmps192
 go_wp2_with fail
 refine ch.mono ?_;clear ch;rintro e w1 ⟨rfl,rfl⟩;simp only [uJ];go_wp2_with fail
 rw [←H];refine Z.mono ?_;clear Z;rintro e J ⟨L,rfl,h3⟩
 have n2:w2.heap[w.heap.size+1+1]?=some (.cells #[.int .i64 4,.string ⟨#[]⟩,.int .i64 0,.slice none 0 0,.int .i64 t.line] 45 (0,0)):=by
  have hx:=World.alloc_heap_new ((w.alloc (.cells #[.int .i64 0,.string ⟨#[]⟩,.int .i64 0,.slice none 0 0,.int .i64 0] 45)).alloc (ZL t)) (.cells #[.int .i64 4,.string ⟨#[]⟩,.int .i64 0,.slice none 0 0,.int .i64 t.line] 45);rw [←H,show ((w.alloc (.cells #[.int .i64 0,.string ⟨#[]⟩,.int .i64 0,.slice none 0 0,.int .i64 0] 45)).alloc (ZL t)).heap.size=w.heap.size+1+1 by simp] at hx
  exact hx
 have n0:w2.heap[w.heap.size]?=some (.cells #[.int .i64 0,.string ⟨#[]⟩,.int .i64 0,.slice none 0 0,.int .i64 0] 45 (0,0)):=by
  rw [H,Below.heap_alloc _ _ _ (by simp;omega),Below.heap_alloc _ _ _ (by simp)]
  exact World.alloc_heap_new _ _
 have D:=(L.block _ (Array.getElem?_eq_some_iff.1 n2).1 (by omega)).trans n2
 have V:=(L.block _ (Array.getElem?_eq_some_iff.1 n0).1 (by omega)).trans n0
 have G:Hid (zc r w J):=W.out.trans L;clear n2 n0 L H W;have c0:J.cell? ⟨w.heap.size+1+1,0,none⟩=some (.int .i64 4):=by simp only [World.cell?,D];rfl
 have c1:J.cell? ⟨w.heap.size+1+1,1,none⟩=some (.string ⟨#[]⟩):=by simp only [World.cell?,D];rfl
 have c2:J.cell? ⟨w.heap.size+1+1,2,none⟩=some (.int .i64 0):=by simp only [World.cell?,D];rfl
 have c3:J.cell? ⟨w.heap.size+1+1,3,none⟩=some (.slice none 0 0):=by simp only [World.cell?,D];rfl
 have c4:J.cell? ⟨w.heap.size+1+1,4,none⟩=some (.int .i64 t.line):=by simp only [World.cell?,D];rfl
 have cf:J.frozen? ⟨w.heap.size+1+1,1,none⟩=false:=by simp only [World.frozen?,D];rfl
 obtain ⟨w4,y⟩:∃w4,w4=J.setCell ⟨w.heap.size+1+1,1,none⟩ (.string (zb t.s)):=⟨_,rfl⟩;have d0:w4.cell? ⟨w.heap.size+1+1,0,none⟩=some (.int .i64 4):=by rw [y,World.cell?_setCell_other _ _ _ _ (by simp)];exact c0
 have d1:w4.cell? ⟨w.heap.size+1+1,1,none⟩=some (.string (zb t.s)):=by rw [y];exact World.cell?_setCell_same _ _ _ c1
 have d2:w4.cell? ⟨w.heap.size+1+1,2,none⟩=some (.int .i64 0):=by rw [y,World.cell?_setCell_other _ _ _ _ (by simp)];exact c2
 have d3:w4.cell? ⟨w.heap.size+1+1,3,none⟩=some (.slice none 0 0):=by rw [y,World.cell?_setCell_other _ _ _ _ (by simp)];exact c3
 have d4:w4.cell? ⟨w.heap.size+1+1,4,none⟩=some (.int .i64 t.line):=by rw [y,World.cell?_setCell_other _ _ _ _ (by simp)];exact c4
 have z:∀k,k≠w.heap.size+1+1→w4.heap[k]?=J.heap[k]?:=fun k hk=>by rw [y];exact Below.heap_setCell _ _ _ _ (by simpa using hk)
 have h4:zf r g (o+5) (cap-1) (u::us) w4:=h3.keep (z r (by omega)) (z g (by omega))
 have T:Hid (zc r w w4):=⟨by rw [y];exact G.out.os,by rw [y];exact G.out.tape,by rw [y];exact G.out.output,by rw [y];simpa using G.out.size,fun k hk hr=>(z k (by omega)).trans (G.out.block k hk hr)⟩
 have O:=(z w.heap.size (by omega)).trans V
 have X:=zgG r g (o+5) (cap-1) u us [40] w4 h4;rw [hu] at X;have U:Hid (J.setCell ⟨w.heap.size+1+1,1,none⟩ (.string (zb t.s))=w4):=y.symm;obtain ⟨I,A⟩:∃I,I=(w4.alloc (ZL u)).alloc (ZL u):=⟨_,rfl⟩;rw [←A] at X;have aa:Hid (zf r g (o+5) (cap-1) (u::us) I):=by rw [A];exact (h4.alloc _).alloc _
 have Y:Hid (zc r w I):=by rw [A];exact (T.out.alloc _).alloc _
 have e0:I.cell? ⟨w.heap.size+1+1,0,none⟩=some (.int .i64 4):=by rw [A];exact zl (zl d0 _) _
 have e1:I.cell? ⟨w.heap.size+1+1,1,none⟩=some (.string (zb t.s)):=by rw [A];exact zl (zl d1 _) _
 have e2:I.cell? ⟨w.heap.size+1+1,2,none⟩=some (.int .i64 0):=by rw [A];exact zl (zl d2 _) _
 have e3:I.cell? ⟨w.heap.size+1+1,3,none⟩=some (.slice none 0 0):=by rw [A];exact zl (zl d3 _) _
 have e4:I.cell? ⟨w.heap.size+1+1,4,none⟩=some (.int .i64 t.line):=by rw [A];exact zl (zl d4 _) _
 have R:w.heap.size<w4.heap.size:=(Array.getElem?_eq_some_iff.1 O).1
 have N:I.heap[w.heap.size]?=some (.cells #[.int .i64 0,.string ⟨#[]⟩,.int .i64 0,.slice none 0 0,.int .i64 0] 45 (0,0)):=by
  rw [A,Below.heap_alloc _ _ _ (by simp;omega),Below.heap_alloc _ _ _ R];exact O
 clear y z h3 h4 D V O G T d0 d1 d2 d3 d4 A R;go_wp2_with fail
 rw [U.out];refine X.mono ?_;clear X c0 c1 c2 c3 c4 cf;rintro e Q ⟨rfl,rfl⟩;have q0:Q.cell? ⟨w.heap.size,0,none⟩=some (.int .i64 0):=by simp only [World.cell?,N];rfl
 have q1:Q.cell? ⟨w.heap.size,1,none⟩=some (.string ⟨#[]⟩):=by simp only [World.cell?,N];rfl
 have q2:Q.cell? ⟨w.heap.size,2,none⟩=some (.int .i64 0):=by simp only [World.cell?,N];rfl
 have q3:Q.cell? ⟨w.heap.size,3,none⟩=some (.slice none 0 0):=by simp only [World.cell?,N];rfl
 have q4:Q.cell? ⟨w.heap.size,4,none⟩=some (.int .i64 0):=by simp only [World.cell?,N];rfl
 have qf:∀j,Q.frozen? ⟨w.heap.size,j,none⟩=false:=fun j=>by simp only [World.frozen?,N];simp
 go_wp2
 obtain ⟨z0,z1,z2,z3,z4⟩:=zY N (.int .i64 4) (.string (zb t.s)) (.int .i64 0) (.slice none 0 0) (.int .i64 t.line);refine bodyPost_ret (v:=.agg #[.int .i64 4,.string (zb t.s),.int .i64 0,.slice none 0 0,.int .i64 t.line]) (by simp [results,Tryz.results192,go_sem,z0,z1,z2,z3,z4]) rfl ⟨ZN Y.out (Nat.le_refl _) _ _ _ _ _,_,o+5,cap-1,rfl,.leaf 4 t.s 0 t.line,?_⟩
 exact aa.out.keep (zr _ _ _ _ _ _ _ (by omega)) (zr _ _ _ _ _ _ _ (by omega))
def zdh (t:Tk):PR (List Ex)→PR Ex
 | .error a=>.error a
 | .ok (l,ts)=>.ok (.mk 5 t.s 0 l t.line,ts)
theorem zc.setOther {r:Nat} {w w':World} (h:zc r w w') {p:Addr} (hp:w.heap.size≤p.block) (v:Value):zc r w (w'.setCell p v):=by
 have o:Below 0 w' (w'.setCell p v):=(Below.refl 0 w').setCell (p:=p) (Nat.zero_le _) v;exact ⟨o.os.trans h.os,o.tape.trans h.tape,o.output.trans h.output,Nat.le_trans h.size o.size,fun k hk hr=>(Below.heap_setCell _ _ _ _ (by omega)).trans (h.block k hk hr)⟩
theorem u6 {w w':World} {p:Addr} (h:w'.heap[p.block]?=w.heap[p.block]?):w'.frozen? p=w.frozen? p:=by
 simp only [World.frozen?,h]
theorem zce (r g o cap:Nat) (t u:Tk) (us:List Tk) (w:World) (res:PR (List Ex)) (h:zf r g o cap (t::u::us) w) (hk:t.k=1) (hu:zm u [40]=true)
  (hbr:∀w1 o1 cap1,zf r g o1 cap1 (u::us) w1→zc r w w1→Calls Tryz.prog 193 #[.pointer (some ⟨r,0,none⟩),.func (.func 42) #[.pointer (some ⟨r,0,none⟩)] #[]] w1 (vP r g w1 res)) :
  Calls Tryz.prog 192 #[.pointer (some ⟨r,0,none⟩)] w (zJ r g w (zdh t res)):=by
 have ay:∀(fn:Fn) (first cap:Array Value) (w:World),(Instr.makeFunc fn first cap).run Tryz.prog w=.ok (.func fn first cap) w:=fun _ _ _ _=>rfl
 generalize hres:zdh t res=res';have hf:=Xu;have hr:=h.lt.1;have ax:=h.lt.2;have h0:=h.alloc (.cells #[.int .i64 0,.string ⟨#[]⟩,.int .i64 0,.slice none 0 0,.int .i64 0] 45);have ch:=Z8 r g o cap t (u::us) _ h0;obtain ⟨w2,N⟩:∃w2,w2=((w.alloc (.cells #[.int .i64 0,.string ⟨#[]⟩,.int .i64 0,.slice none 0 0,.int .i64 0] 45)).alloc (ZL t)).alloc (.cells #[.int .i64 4,.string ⟨#[]⟩,.int .i64 0,.slice none 0 0,.int .i64 t.line] 45):=⟨_,rfl⟩;have h2:zf r g o cap (t::u::us) w2:=by rw [N];exact (h0.alloc _).alloc _
 have al:Hid (zc r w w2):=by rw [N];exact (((zc.refl r w).alloc _).alloc _).alloc _
 have cn:=xu r g o cap t (u::us) w2 h2 (fun _=>by simp)
 simp only [hk,if_true] at cn;clear h h0 h2
 go_enter Tryz.func192,Tryz.ntmps192
 go_wp2_with fail
 refine ch.mono ?_;clear ch;rintro e w1 ⟨rfl,rfl⟩;simp only [uJ];go_wp2_with fail
 rw [←N];refine cn.mono ?_;clear cn;rintro e W ⟨X,rfl,h3⟩
 have n2:w2.heap[w.heap.size+1+1]?=some (.cells #[.int .i64 4,.string ⟨#[]⟩,.int .i64 0,.slice none 0 0,.int .i64 t.line] 45 (0,0)):=by
  have hx:=World.alloc_heap_new ((w.alloc (.cells #[.int .i64 0,.string ⟨#[]⟩,.int .i64 0,.slice none 0 0,.int .i64 0] 45)).alloc (ZL t)) (.cells #[.int .i64 4,.string ⟨#[]⟩,.int .i64 0,.slice none 0 0,.int .i64 t.line] 45);rw [←N,show ((w.alloc (.cells #[.int .i64 0,.string ⟨#[]⟩,.int .i64 0,.slice none 0 0,.int .i64 0] 45)).alloc (ZL t)).heap.size=w.heap.size+1+1 by simp] at hx
  exact hx
 have n0:w2.heap[w.heap.size]?=some (.cells #[.int .i64 0,.string ⟨#[]⟩,.int .i64 0,.slice none 0 0,.int .i64 0] 45 (0,0)):=by
  rw [N,Below.heap_alloc _ _ _ (by simp;omega),Below.heap_alloc _ _ _ (by simp)]
  exact World.alloc_heap_new _ _
 have J:=(X.block _ (Array.getElem?_eq_some_iff.1 n2).1 (by omega)).trans n2
 have ae:=(X.block _ (Array.getElem?_eq_some_iff.1 n0).1 (by omega)).trans n0
 have O:Hid (zc r w W):=al.out.trans X;clear n2 n0 X N al;have c0:W.cell? ⟨w.heap.size+1+1,0,none⟩=some (.int .i64 4):=by simp only [World.cell?,J];rfl
 have c1:W.cell? ⟨w.heap.size+1+1,1,none⟩=some (.string ⟨#[]⟩):=by simp only [World.cell?,J];rfl
 have c2:W.cell? ⟨w.heap.size+1+1,2,none⟩=some (.int .i64 0):=by simp only [World.cell?,J];rfl
 have c3:W.cell? ⟨w.heap.size+1+1,3,none⟩=some (.slice none 0 0):=by simp only [World.cell?,J];rfl
 have c4:W.cell? ⟨w.heap.size+1+1,4,none⟩=some (.int .i64 t.line):=by simp only [World.cell?,J];rfl
 have cf:W.frozen? ⟨w.heap.size+1+1,1,none⟩=false:=by simp only [World.frozen?,J];rfl
 obtain ⟨w4,z⟩:∃w4,w4=W.setCell ⟨w.heap.size+1+1,1,none⟩ (.string (zb t.s)):=⟨_,rfl⟩;have d0:w4.cell? ⟨w.heap.size+1+1,0,none⟩=some (.int .i64 4):=by rw [z,World.cell?_setCell_other _ _ _ _ (by simp)];exact c0
 have d1:w4.cell? ⟨w.heap.size+1+1,1,none⟩=some (.string (zb t.s)):=by rw [z];exact World.cell?_setCell_same _ _ _ c1
 have d2:w4.cell? ⟨w.heap.size+1+1,2,none⟩=some (.int .i64 0):=by rw [z,World.cell?_setCell_other _ _ _ _ (by simp)];exact c2
 have d3:w4.cell? ⟨w.heap.size+1+1,3,none⟩=some (.slice none 0 0):=by rw [z,World.cell?_setCell_other _ _ _ _ (by simp)];exact c3
 have d4:w4.cell? ⟨w.heap.size+1+1,4,none⟩=some (.int .i64 t.line):=by rw [z,World.cell?_setCell_other _ _ _ _ (by simp)];exact c4
 have y:∀k,k≠w.heap.size+1+1→w4.heap[k]?=W.heap[k]?:=fun k hk=>by rw [z];exact Below.heap_setCell _ _ _ _ (by simpa using hk)
 have h4:zf r g (o+5) (cap-1) (u::us) w4:=h3.keep (y r (by omega)) (y g (by omega))
 have ai:Hid (zc r w w4):=⟨by rw [z];exact O.out.os,by rw [z];exact O.out.tape,by rw [z];exact O.out.output,by rw [z];simpa using O.out.size,fun k hk hr=>(y k (by omega)).trans (O.out.block k hk hr)⟩
 have aa:=(y w.heap.size (by omega)).trans ae
 have ci:=zgG r g (o+5) (cap-1) u us [40] w4 h4;rw [hu] at ci;have ad:Hid (W.setCell ⟨w.heap.size+1+1,1,none⟩ (.string (zb t.s))=w4):=z.symm;obtain ⟨R,A⟩:∃R,R=(w4.alloc (ZL u)).alloc (ZL u):=⟨_,rfl⟩;rw [←A] at ci;have ao:Hid (zf r g (o+5) (cap-1) (u::us) R):=by rw [A];exact (h4.alloc _).alloc _
 have ap:Hid (zc r w R):=by rw [A];exact (ai.out.alloc _).alloc _
 have e0:R.cell? ⟨w.heap.size+1+1,0,none⟩=some (.int .i64 4):=by rw [A];exact zl (zl d0 _) _
 have e1:R.cell? ⟨w.heap.size+1+1,1,none⟩=some (.string (zb t.s)):=by rw [A];exact zl (zl d1 _) _
 have e2:R.cell? ⟨w.heap.size+1+1,2,none⟩=some (.int .i64 0):=by rw [A];exact zl (zl d2 _) _
 have e3:R.cell? ⟨w.heap.size+1+1,3,none⟩=some (.slice none 0 0):=by rw [A];exact zl (zl d3 _) _
 have e4:R.cell? ⟨w.heap.size+1+1,4,none⟩=some (.int .i64 t.line):=by rw [A];exact zl (zl d4 _) _
 have ah:w.heap.size<w4.heap.size:=(Array.getElem?_eq_some_iff.1 aa).1
 have p0:R.heap[w.heap.size]?=some (.cells #[.int .i64 0,.string ⟨#[]⟩,.int .i64 0,.slice none 0 0,.int .i64 0] 45 (0,0)):=by
  rw [A,Below.heap_alloc _ _ _ (by simp;omega),Below.heap_alloc _ _ _ ah];exact aa
 have av:R.frozen? ⟨w.heap.size+1+1,0,none⟩=false:=by
  have T:w4.frozen? ⟨w.heap.size+1+1,0,none⟩=false:=by rw [z,World.frozen?_setCell];simp only [World.frozen?,J];rfl
  have V:=World.block_lt_of_cell? w4 _ d0;rw [A];simp only [World.frozen?] at T ⊢;rw [Below.heap_alloc _ _ _ (by simp;simp at V;omega),Below.heap_alloc _ _ _ V];exact T
 have ab:R.frozen? ⟨w.heap.size+1+1,3,none⟩=false:=by
  have T:w4.frozen? ⟨w.heap.size+1+1,3,none⟩=false:=by rw [z,World.frozen?_setCell];simp only [World.frozen?,J];rfl
  have V:=World.block_lt_of_cell? w4 _ d0;rw [A];simp only [World.frozen?] at T ⊢;rw [Below.heap_alloc _ _ _ (by simp;simp at V;omega),Below.heap_alloc _ _ _ V];exact T
 clear z y h3 h4 J ae aa O ai d0 d1 d2 d3 d4 A ah;go_wp2_with fail
 rw [ad.out];refine ci.mono ?_;clear ci c0 c1 c2 c3 c4 cf;rintro e w6 ⟨rfl,rfl⟩;obtain ⟨w7,G⟩:∃w7,w7=w6.setCell ⟨w.heap.size+1+1,0,none⟩ (.int .i64 5):=⟨_,rfl⟩;have aq:Hid (w6.setCell ⟨w.heap.size+1+1,0,none⟩ (.int .i64 5)=w7):=G.symm;have y:∀k,k≠w.heap.size+1+1→w7.heap[k]?=w6.heap[k]?:=fun k hk=>by rw [G];exact Below.heap_setCell _ _ _ _ (by simpa using hk)
 have h7:zf r g (o+5) (cap-1) (u::us) w7:=ao.out.keep (y r (by omega)) (y g (by omega))
 have k7:zc r w w7:=by rw [G];exact ap.out.setOther (by simp;omega) _
 have ak:Hid (zc r w w7):=k7;have cb:=hbr w7 _ _ h7 k7;have f0:w7.cell? ⟨w.heap.size+1+1,0,none⟩=some (.int .i64 5):=by rw [G];exact World.cell?_setCell_same _ _ _ e0
 have f1:w7.cell? ⟨w.heap.size+1+1,1,none⟩=some (.string (zb t.s)):=by rw [G,World.cell?_setCell_other _ _ _ _ (by simp)];exact e1
 have f2:w7.cell? ⟨w.heap.size+1+1,2,none⟩=some (.int .i64 0):=by rw [G,World.cell?_setCell_other _ _ _ _ (by simp)];exact e2
 have f3:w7.cell? ⟨w.heap.size+1+1,3,none⟩=some (.slice none 0 0):=by rw [G,World.cell?_setCell_other _ _ _ _ (by simp)];exact e3
 have f4:w7.cell? ⟨w.heap.size+1+1,4,none⟩=some (.int .i64 t.line):=by rw [G,World.cell?_setCell_other _ _ _ _ (by simp)];exact e4
 have ff:w7.frozen? ⟨w.heap.size+1+1,3,none⟩=false:=by rw [G,World.frozen?_setCell];exact ab
 have p7:=(y w.heap.size (by omega)).trans p0
 clear hbr h7 k7 G y p0;go_wp2_with fail
 rw [aq.out];refine cb.mono ?_;clear cb e0 e1 e2 e3 e4 av ab;rintro e w8 ⟨H,U⟩;subst hres;rcases res with a | ⟨l,ts⟩
 ·obtain rfl:=U
  exact ⟨rfl,ak.out.trans H,rfl⟩
 ·obtain ⟨v,o8,Y,rfl,L,aj⟩:=U
  have Q:r≠w.heap.size+1+1:=by omega
  have g0:=H.cell (p:=⟨w.heap.size+1+1,0,none⟩) (fun h=>Q h.symm) f0
  have g1:=H.cell (p:=⟨w.heap.size+1+1,1,none⟩) (fun h=>Q h.symm) f1
  have g2:=H.cell (p:=⟨w.heap.size+1+1,2,none⟩) (fun h=>Q h.symm) f2
  have g3:=H.cell (p:=⟨w.heap.size+1+1,3,none⟩) (fun h=>Q h.symm) f3
  have g4:=H.cell (p:=⟨w.heap.size+1+1,4,none⟩) (fun h=>Q h.symm) f4
  have gf:w8.frozen? ⟨w.heap.size+1+1,3,none⟩=false:=(u6 (p:=⟨w.heap.size+1+1,3,none⟩) (H.block _ (World.block_lt_of_cell? w7 _ f3) (fun h=>Q h.symm))).trans ff
  have p8:=(H.block w.heap.size (Array.getElem?_eq_some_iff.1 p7).1 (by omega)).trans p7
  have an:Hid (zc r w w8):=ak.out.trans H;have az:w.heap.size+1+1<w7.heap.size:=World.block_lt_of_cell? w7 _ f0;obtain ⟨I,D⟩:∃I,I=w8.setCell ⟨w.heap.size+1+1,3,none⟩ v:=⟨_,rfl⟩;have aA:Hid (I=w8.setCell ⟨w.heap.size+1+1,3,none⟩ v):=D;have y:∀k,k≠w.heap.size+1+1→I.heap[k]?=w8.heap[k]?:=fun k hk=>by rw [D];exact Below.heap_setCell _ _ _ _ (by simpa using hk)
  have ag:w8.heap.size≤I.heap.size:=by rw [D];simp
  have af:Hid (yV w7.heap.size I l v):=L.kept ag fun k hB _=>y k (by omega)
  have am:Hid (zf r g o8 Y ts I):=aj.keep (y r (by omega)) (y g (by omega))
  have ar:Hid (zc r w I):=by rw [D];exact an.out.setOther (by simp;omega) _
  have Z:=(y w.heap.size (by omega)).trans p8
  have i0:I.cell? ⟨w.heap.size+1+1,0,none⟩=some (.int .i64 5):=by rw [D,World.cell?_setCell_other _ _ _ _ (by simp)];exact g0
  have i1:I.cell? ⟨w.heap.size+1+1,1,none⟩=some (.string (zb t.s)):=by rw [D,World.cell?_setCell_other _ _ _ _ (by simp)];exact g1
  have i2:I.cell? ⟨w.heap.size+1+1,2,none⟩=some (.int .i64 0):=by rw [D,World.cell?_setCell_other _ _ _ _ (by simp)];exact g2
  have i3:I.cell? ⟨w.heap.size+1+1,3,none⟩=some v:=by rw [D];exact World.cell?_setCell_same _ _ _ g3
  have i4:I.cell? ⟨w.heap.size+1+1,4,none⟩=some (.int .i64 t.line):=by rw [D,World.cell?_setCell_other _ _ _ _ (by simp)];exact g4
  have q0:I.cell? ⟨w.heap.size,0,none⟩=some (.int .i64 0):=by simp only [World.cell?,Z];rfl
  have q1:I.cell? ⟨w.heap.size,1,none⟩=some (.string ⟨#[]⟩):=by simp only [World.cell?,Z];rfl
  have q2:I.cell? ⟨w.heap.size,2,none⟩=some (.int .i64 0):=by simp only [World.cell?,Z];rfl
  have q3:I.cell? ⟨w.heap.size,3,none⟩=some (.slice none 0 0):=by simp only [World.cell?,Z];rfl
  have q4:I.cell? ⟨w.heap.size,4,none⟩=some (.int .i64 0):=by simp only [World.cell?,Z];rfl
  have qf:∀j,I.frozen? ⟨w.heap.size,j,none⟩=false:=fun j=>by simp only [World.frozen?,Z];simp
  have au:∃a n c,v=.slice a n c:=by
   rcases L with ⟨-,rfl⟩ | ⟨_,_,_,rfl,_⟩
   ·exact ⟨_,_,_,rfl⟩
   ·exact ⟨_,_,_,rfl⟩
  obtain ⟨va,vn,vc,rfl⟩:=au;clear y L aj f0 f1 f2 f3 f4 ff H p8 g0 g1 g2 g4;have aw:=D.symm;clear D;go_wp2
  obtain ⟨z0,z1,z2,z3,z4⟩:=zY Z (.int .i64 5) (.string (zb t.s)) (.int .i64 0) (.slice va vn vc) (.int .i64 t.line);refine bodyPost_ret (v:=.agg #[.int .i64 5,.string (zb t.s),.int .i64 0,.slice va vn vc,.int .i64 t.line]) (by simp [results,Tryz.results192,go_sem,z0,z1,z2,z3,z4]) rfl ⟨ZN ar.out (Nat.le_refl _) _ _ _ _ _,_,o8,Y,rfl,?_,?_⟩
  ·have L:yV w7.heap.size (set5 I w.heap.size (.int .i64 5) (.string (zb t.s)) (.int .i64 0) (.slice va vn vc) (.int .i64 t.line)) l (.slice va vn vc) :=
    af.out.kept (by simp) fun k hB _=>zr _ _ _ _ _ _ _ (by omega)
   exact ZI.of_row (L.mono (by omega)) 5 t.s 0 t.line
  ·exact am.out.keep (zr _ _ _ _ _ _ _ (by omega)) (zr _ _ _ _ _ _ _ (by omega))
theorem zX.agg {S:Nat→Prop} {w:World} {x:Ex} {v:Value} (h:zX S w x v):∃(a:Int) (b:ByteArray) (c:Int) (d0:Option Addr) (d1 d2:Nat) (e:Int),v=.agg #[.int .i64 a,.string b,.int .i64 c,.slice d0 d1 d2,.int .i64 e]:=by
 cases h with
 | leaf=>exact ⟨_,_,_,_,_,_,_,rfl⟩
 | node=>exact ⟨_,_,_,_,_,_,_,rfl⟩
abbrev Zz:Obj:=.cells #[.int .i64 0,.string ⟨#[]⟩,.int .i64 0,.slice none 0 0,.int .i64 0] 45
theorem zhW (r g:Nat) (w:World) (res:PR Ex) (hr:r<w.heap.size) (hgw:g<w.heap.size)
  (hb:Calls Tryz.prog 84 #[.pointer (some ⟨r,0,none⟩),.int .i64 1] (w.alloc Zz) (zJ r g (w.alloc Zz) res)) :
  Calls Tryz.prog 42 #[.pointer (some ⟨r,0,none⟩)] w (zJ r g w res):=by
 go_enter Tryz.func42,Tryz.ntmps42
 go_wp2_with fail
 refine hb.mono ?_;clear hb;rintro e w1 ⟨z,h⟩;have L:zc r w w1:=((zc.refl r w).alloc _).trans z;rcases res with a | ⟨x,ts⟩
 ·obtain rfl:=h
  exact ⟨rfl,L,rfl⟩
 ·obtain ⟨v,o,A,rfl,J,D⟩:=h
  obtain ⟨a,b,c,G,H,I,e,rfl⟩:=J.agg;have V:(w.alloc Zz).heap.size=w.heap.size+1:=by simp
  have y:w1.heap[w.heap.size]?=some Zz:=(z.block w.heap.size (by omega) (by omega)).trans (World.alloc_heap_new w _)
  have Y:w1.cell? ⟨w.heap.size,0,none⟩=some (.int .i64 0):=by simp only [World.cell?,y];rfl
  have Z:w1.cell? ⟨w.heap.size,1,none⟩=some (.string ⟨#[]⟩):=by simp only [World.cell?,y];rfl
  have q2:w1.cell? ⟨w.heap.size,2,none⟩=some (.int .i64 0):=by simp only [World.cell?,y];rfl
  have q3:w1.cell? ⟨w.heap.size,3,none⟩=some (.slice none 0 0):=by simp only [World.cell?,y];rfl
  have q4:w1.cell? ⟨w.heap.size,4,none⟩=some (.int .i64 0):=by simp only [World.cell?,y];rfl
  have qf:∀j,w1.frozen? ⟨w.heap.size,j,none⟩=false:=fun j=>by simp only [World.frozen?,y];simp
  have T:Hid (ZI (w.alloc Zz).heap.size w1 x (.agg #[.int .i64 a,.string b,.int .i64 c,.slice G H I,.int .i64 e])):=J;have X:Hid (zf r g o A ts w1):=D;have W:Hid (zc r w w1):=L;clear z J D L;go_wp2
  obtain ⟨N,Q,U,R,O⟩:=zY y (.int .i64 a) (.string b) (.int .i64 c) (.slice G H I) (.int .i64 e);refine bodyPost_ret (v:=.agg #[.int .i64 a,.string b,.int .i64 c,.slice G H I,.int .i64 e]) (by simp [results,Tryz.results42,go_sem,N,Q,U,R,O]) rfl ⟨ZN W.out (Nat.le_refl _) _ _ _ _ _,_,o,A,rfl,?_,?_⟩
  ·exact (T.out.kept (w':=set5 w1 w.heap.size (.int .i64 a) (.string b) (.int .i64 c) (.slice G H I) (.int .i64 e)) (by simp) fun k hB _=>zr _ _ _ _ _ _ _ (by omega)).mono (by omega)
  ·exact X.out.keep (zr _ _ _ _ _ _ _ (by omega)) (zr _ _ _ _ _ _ _ (by omega))
theorem za {α β:Type} {x:Option (PR α)} {k:α→List Tk→Option (PR β)} {p:β × List Tk} (h:zh x k=some (.ok p)):∃y us,x=some (.ok (y,us))∧k y us=some (.ok p):=by
 unfold zh at h
 cases x with
 | none=>cases h
 | some x =>
  cases x with
  | error a=>cases h
  | ok q=>exact ⟨q.1,q.2,rfl,h⟩
theorem Z2 {ts:List Tk} (h:zi ts) (hk:(zu ts).k≠0):zi ts.tail:=by
 obtain ⟨t,o,rfl⟩:=h.cons;exact h.tail hk
theorem zA {ts:List Tk} {s:List UInt8} (h:zi ts) (hk:zm (zu ts) s=true):zi ts.tail:=Z2 h (zk hk)
theorem zZ {s:List UInt8} {ts us:List Tk} {y:Unit} (h:zR s ts=some (.ok (y,us))) (hE:zi ts):zi us:=by
 unfold zR at h
 split at h
 ·rename_i o
  simp only [Option.some.injEq,Except.ok.injEq,Prod.mk.injEq] at h;rw [←h.2];exact zA hE o
 ·cases h
theorem ZM {s:List UInt8} {ts us:List Tk} (h:Z6 ts=some (.ok (s,us))) (hE:zi ts):zi us:=by
 unfold Z6 at h
 split at h
 ·rename_i o
  simp only [Option.some.injEq,Except.ok.injEq,Prod.mk.injEq] at h;rw [←h.2];exact Z2 hE (by omega)
 ·cases h
theorem Za {α:Type} {x y:α} {ts us:List Tk} (h:(some (.ok (x,ts)):Option (PR α))=some (.ok (y,us))) (hE:zi ts):zi us:=by
 simp only [Option.some.injEq,Except.ok.injEq,Prod.mk.injEq] at h;rw [←h.2];exact hE
theorem Ze (f:Nat) :
  (∀least ts x us,zg f least ts=some (.ok (x,us))→zi ts→zi us)∧(∀least e ts x us,Zs f least e ts=some (.ok (x,us))→zi ts→zi us) ∧
  (∀ts x us,Zm f ts=some (.ok (x,us))→zi ts→zi us)∧(∀e ts x us,zx f e ts=some (.ok (x,us))→zi ts→zi us)∧(∀ts x us,zH f ts=some (.ok (x,us))→zi ts→zi us) ∧
  (∀pre ts x us,Z1 f pre ts=some (.ok (x,us))→zi ts→zi us)∧(∀ts x us,zG f ts=some (.ok (x,us))→zi ts→zi us):=by
 induction f with
 | zero=>refine ⟨?_,?_,?_,?_,?_,?_,?_⟩ <;> intros <;> simp_all [zg,Zs,Zm,zx,zH,Z1,zG]
 | succ f ih =>
  obtain ⟨J,W,X,O,i5,U,Y⟩:=ih;refine ⟨fun least ts x us h hE=>?_,fun least e ts x us h hE=>?_,fun ts x us h hE=>?_,fun e ts x us h hE=>?_,fun ts x us h hE=>?_,fun pre ts x us h hE=>?_,fun ts x us h hE=>?_⟩
  ·rw [zg] at h
   split at h
   ·exact X _ _ _ h hE
   ·obtain ⟨y,G,A,o⟩:=za h
    exact W _ _ _ _ _ o (J _ _ _ _ A hE)
  ·rw [Zs] at h
   split at h
   ·rename_i D
    obtain ⟨y,G,A,o⟩:=za h;exact W _ _ _ _ _ o (J _ _ _ _ A (Z2 hE (by omega)))
   ·exact Za h hE
  ·rw [Zm] at h
   split at h
   ·rename_i D
    obtain ⟨y,G,A,o⟩:=za h;exact Za o (X _ _ _ A (Z2 hE (by omega)))
   ·obtain ⟨y,G,A,o⟩:=za h
    exact O _ _ _ _ o (i5 _ _ _ A hE)
  ·rw [zx] at h
   split at h
   ·rename_i D
    obtain ⟨y,G,A,o⟩:=za h;obtain ⟨z,N,I,H⟩:=za o;exact O _ _ _ _ H (zZ I (J _ _ _ _ A (zA hE D)))
   ·split at h
    ·rename_i D
     obtain ⟨y,G,A,o⟩:=za h;exact O _ _ _ _ o (ZM A (zA hE D))
    ·exact Za h hE
  ·rw [zH] at h
   split at h
   ·rename_i D;exact Za h (Z2 hE (by omega))
   split at h
   ·rename_i D;exact Za h (Z2 hE (by omega))
   split at h
   ·rename_i D
    have V:=Z2 hE (by omega)
    split at h
    ·obtain ⟨y,G,A,o⟩:=za h
     exact Za o (Y _ _ _ A V)
    ·exact Za h V
   split at h
   ·rename_i D;exact Za h (zA hE D)
   split at h
   ·rename_i D;exact Za h (zA hE D)
   split at h
   ·rename_i D
    obtain ⟨y,G,A,o⟩:=za h;obtain ⟨z,N,I,H⟩:=za o;exact Za H (Y _ _ _ I (ZM A (zA hE D)))
   split at h
   ·rename_i D
    obtain ⟨y,G,A,o⟩:=za h;obtain ⟨z,N,I,H⟩:=za o;exact Za H (zZ I (U _ _ _ _ A (zA hE D)))
   ·obtain ⟨y,G,A,o⟩:=za h
    obtain ⟨z,N,I,H⟩:=za o;obtain ⟨Z,Q,R,T⟩:=za H;exact Za T (zZ R (J _ _ _ _ I (zZ A hE)))
  ·rw [Z1] at h
   obtain ⟨y,G,A,o⟩:=za h;have L:=J _ _ _ _ A hE
   split at o
   ·rename_i D;exact U _ _ _ _ o (zA L D)
   ·exact Za o L
  ·rw [zG] at h
   obtain ⟨y,G,A,o⟩:=za h;have L:=zZ A hE
   split at o
   ·rename_i D;exact Za o (zA L D)
   ·obtain ⟨z,N,I,H⟩:=za o
    obtain ⟨Z,Q,R,T⟩:=za H;exact Za T (zZ R (U _ _ _ _ I L))
end Go.Proofs.YtcphojjpapgblaaGreatDoor
