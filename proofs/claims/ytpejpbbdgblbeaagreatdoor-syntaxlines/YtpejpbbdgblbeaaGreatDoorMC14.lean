import Derived.Test.YtpejpbbdgblbeaaGreatDoorMC8
namespace Go.Proofs.YtpejpbbdgblbeaaGreatDoor
open Go.RowKit Go.Shelf
set_option maxHeartbeats 16000000
set_option maxRecDepth 100000
def Ex.line:Ex→Nat | .mk _ _ _ _ l=>l
def Ex.kind:Ex→Nat | .mk k _ _ _ _=>k
def zw:List Tk→Tk | t::_=>t | []=>⟨0,[],0,0,0⟩
abbrev PR (α:Type):=Except Nat (α × List Tk)
def zm {α β:Type} (x:Option (PR α)) (k:α→List Tk→Option (PR β)):Option (PR β) :=
 match x with
 | none=>none
 | some (.error a)=>some (.error a)
 | some (.ok (y,ts))=>k y ts
def zW (s:List UInt8) (ts:List Tk):Option (PR Unit):=some (if zo (zw ts) s=true then .ok ((),ts.tail) else .error (zw ts).at0)
def yo (ts:List Tk):Option (PR (List UInt8)):=some (if (zw ts).k=1 then .ok ((zw ts).s,ts.tail) else .error (zw ts).at0)
mutual
def zh:Nat→Nat→List Tk→Option (PR Ex)
 | 0,_,_=>none
 | f+1,least,ts=>if 6<least then Zp f ts else zm (zh f (least+1) ts) fun e ts=>ZD f least e ts
def ZD:Nat→Nat→Ex→List Tk→Option (PR Ex)
 | 0,_,_,_=>none
 | f+1,least,e,ts=>if (zw ts).k=4∧levelOf (zw ts).s=least then zm (zh f (least+1) ts.tail) fun e2 ts'=>ZD f least (.mk 7 (zw ts).s 0 [e,e2] e.line) ts' else some (.ok (e,ts))
def Zp:Nat→List Tk→Option (PR Ex)
 | 0,_=>none
 | f+1,ts=>if (zw ts).k=4∧((zw ts).s=[45]∨(zw ts).s=[33]) then zm (Zp f ts.tail) fun e ts'=>some (.ok (.mk 6 (zw ts).s 0 [e] (zw ts).line,ts')) else zm (zQ f ts) fun e ts=>zE f e ts
def zE:Nat→Ex→List Tk→Option (PR Ex)
 | 0,_,_=>none
 | f+1,e,ts =>
  if zo (zw ts) [91]=true then zm (zh f 1 ts.tail) fun i ts=>zm (zW [93] ts) fun _ ts=>zE f (.mk 8 [] 0 [e,i] e.line) ts
  else if zo (zw ts) [46]=true then zm (yo ts.tail) fun s ts=>zE f (.mk 9 s 0 [e] e.line) ts
  else some (.ok (e,ts))
def zQ:Nat→List Tk→Option (PR Ex)
 | 0,_=>none
 | f+1,ts =>
  if (zw ts).k=2 then some (.ok (.mk 1 [] (zw ts).n [] (zw ts).line,ts.tail))
  else if (zw ts).k=3 then some (.ok (.mk 3 (zw ts).s 0 [] (zw ts).line,ts.tail))
  else if (zw ts).k=1 then
   if zo (zw ts.tail) [40]=true then zm (zK f ts.tail) fun l ts'=>some (.ok (.mk 5 (zw ts).s 0 l (zw ts).line,ts')) else some (.ok (.mk 4 (zw ts).s 0 [] (zw ts).line,ts.tail))
  else if zo (zw ts) [116,114,117,101]=true then some (.ok (.mk 2 [] 1 [] (zw ts).line,ts.tail))
  else if zo (zw ts) [102,97,108,115,101]=true then some (.ok (.mk 2 [] 0 [] (zw ts).line,ts.tail))
  else if zo (zw ts) [110,101,119]=true then zm (yo ts.tail) fun s ts'=>zm (zK f ts') fun l ts'=>some (.ok (.mk 11 s 0 l (zw ts).line,ts'))
  else if zo (zw ts) [91]=true then zm (yp f [] ts.tail) fun l ts'=>zm (zW [93] ts') fun _ ts'=>some (.ok (.mk 10 [] 0 l (zw ts).line,ts'))
  else zm (zW [40] ts) fun _ ts=>zm (zh f 1 ts) fun e ts=>zm (zW [41] ts) fun _ ts=>some (.ok (e,ts))
def yp:Nat→List Ex→List Tk→Option (PR (List Ex))
 | 0,_,_=>none
 | f+1,pre,ts=>zm (zh f 1 ts) fun e ts=>if zo (zw ts) [44]=true then yp f (pre++[e]) ts.tail else some (.ok (pre++[e],ts))
def zK:Nat→List Tk→Option (PR (List Ex))
 | 0,_=>none
 | f+1,ts=>zm (zW [40] ts) fun _ ts=>if zo (zw ts) [41]=true then some (.ok ([],ts.tail)) else zm (yp f [] ts) fun l ts=>zm (zW [41] ts) fun _ ts=>some (.ok (l,ts))
end
theorem zD {α β:Type} {x y:Option (PR α)} {k l:α→List Tk→Option (PR β)} {r:PR β} (h:zm x k=some r) (hx:∀r,x=some r→y=some r) (hk:∀a ts r,k a ts=some r→l a ts=some r):zm y l=some r:=by
 unfold zm at h ⊢
 cases x with
 | none=>cases h
 | some x =>
  rw [hx x rfl];cases x with
  | error a=>exact h
  | ok p=>exact hk _ _ _ h
theorem uH (f:Nat) :
  (∀least ts r,zh f least ts=some r→zh (f+1) least ts=some r)∧(∀least e ts r,ZD f least e ts=some r→ZD (f+1) least e ts=some r) ∧
  (∀ts r,Zp f ts=some r→Zp (f+1) ts=some r)∧(∀e ts r,zE f e ts=some r→zE (f+1) e ts=some r)∧(∀ts r,zQ f ts=some r→zQ (f+1) ts=some r) ∧
  (∀pre ts r,yp f pre ts=some r→yp (f+1) pre ts=some r)∧(∀ts r,zK f ts=some r→zK (f+1) ts=some r):=by
 induction f with
 | zero=>refine ⟨?_,?_,?_,?_,?_,?_,?_⟩ <;> intros <;> rename_i h <;> simp [zh,ZD,Zp,zE,zQ,yp,zK] at h
 | succ f ih =>
  obtain ⟨s,G,A,y,H,z,D⟩:=ih;refine ⟨fun least ts r h=>?_,fun least e ts r h=>?_,fun ts r h=>?_,fun e ts r h=>?_,fun ts r h=>?_,fun pre ts r h=>?_,fun ts r h=>?_⟩
  ·rw [zh] at h ⊢
   split at h
   ·rename_i o;rw [if_pos o];exact A _ _ h
   ·rename_i o;rw [if_neg o];exact zD h (s _ _) fun a ts r=>G _ _ _ _
  ·rw [ZD] at h ⊢
   split at h
   ·rename_i o;rw [if_pos o];exact zD h (s _ _) fun a ts r=>G _ _ _ _
   ·rename_i o;rw [if_neg o];exact h
  ·rw [Zp] at h ⊢
   split at h
   ·rename_i o;rw [if_pos o];exact zD h (A _) fun a ts r h=>h
   ·rename_i o;rw [if_neg o];exact zD h (H _) fun a ts r=>y _ _ _
  ·rw [zE] at h ⊢
   split at h
   ·rename_i o;rw [if_pos o];exact zD h (s _ _) fun a ts r h=>zD h (fun _ h=>h) fun a ts r=>y _ _ _
   ·rename_i o;rw [if_neg o]
    split at h
    ·rename_i o;rw [if_pos o];exact zD h (fun _ h=>h) fun a ts r=>y _ _ _
    ·rename_i o;rw [if_neg o];exact h
  ·rw [zQ] at h ⊢
   repeat' split at h
   all_goals simp_all only [if_true,if_false,Bool.false_eq_true]
   all_goals first
    | exact h
    | exact zD h (D _) fun a ts r h=>h
    | exact zD h (fun _ h=>h) fun a ts r h=>zD h (D _) fun a ts r h=>h
    | exact zD h (z _ _) fun a ts r h=>zD h (fun _ h=>h) fun a ts r h=>h
    | exact zD h (fun _ h=>h) fun a ts r h=>zD h (s _ _) fun a ts r h=>zD h (fun _ h=>h) fun a ts r h=>h
  ·rw [yp] at h ⊢
   refine zD h (s _ _) fun a ts r h=>?_
   split at h
   ·rename_i o;rw [if_pos o];exact z _ _ _ h
   ·rename_i o;rw [if_neg o];exact h
  ·rw [zK] at h ⊢
   refine zD h (fun _ h=>h) fun a ts r h=>?_
   split at h
   ·rename_i o;rw [if_pos o];exact h
   ·rename_i o;rw [if_neg o];exact zD h (z _ _) fun a ts r h=>h
def NmT (t:Tk):Prop:=t.k=1→t.s.length≤1099511627776
def zg:List Tk→Prop
 | []=>False
 | [t]=>t.k=0
 | t::ts=>t.k≠0∧NmT t∧zg ts
theorem zg.ne {ts:List Tk} (h:zg ts):ts≠[]:=by cases ts <;> simp [zg] at h ⊢
theorem zg.tail {t:Tk} {ts:List Tk} (h:zg (t::ts)) (hk:t.k≠0):zg ts:=by
 cases ts with
 | nil=>exact absurd h hk
 | cons u us=>exact h.2.2
theorem zg.names {ts:List Tk} (h:zg ts):∀t∈ts,NmT t:=by
 induction ts with
 | nil=>intro t o;cases o
 | cons u us ih =>
  intro t o;cases us with
  | nil =>
   simp only [List.mem_singleton] at o;subst o;intro y;have s:t.k=0:=h;omega
  | cons v vs =>
   rcases List.mem_cons.1 o with rfl | o
   ·exact h.2.1
   ·exact ih h.2.2 t o
theorem zi {t:Tk} {s:List UInt8} (h:zo t s=true):t.k≠0:=by
 unfold zo at h
 intro o
 simp [o] at h
theorem zg.cons {ts:List Tk} (h:zg ts):∃t us,ts=t::us:=by
 cases ts with
 | nil=>exact absurd h (by simp [zg])
 | cons t us=>exact ⟨t,us,rfl⟩
theorem YH {f k least:Nat} {ts:List Tk} {r:PR Ex} (h:zh f least ts=some r):zh (f+k) least ts=some r:=by
 induction k with
 | zero=>exact h
 | succ k ih=>exact (uH (f+k)).1 _ _ _ ih
theorem X4 {f f' least:Nat} {ts:List Tk} {r r':PR Ex} (h:zh f least ts=some r) (h':zh f' least ts=some r'):r=r':=by
 have a:=YH (k:=f') h;have b:=YH (k:=f) h';rw [Nat.add_comm] at b;exact Option.some.inj (a.symm.trans b)
def zI (S:Nat→Prop) (w:World) (l:List Ex) (v:Value):Prop :=
 (l=[]∧v=.slice none 0 0)∨∃(g cap:Nat) (us:List (List Value)),v=.slice (some ⟨g,0,none⟩) l.length cap∧l≠[]∧us.length=l.length∧S g∧g<w.heap.size∧l.length≤cap∧cap≤maxLen ∧
  (∀j u,us.flatten[j]?=some u→w.cell? ⟨g,j,none⟩=some u)∧(∀c∈us,c.length=5)∧∀(j:Nat) (x:Ex) (c:List Value),l[j]?=some x→us[j]?=some c→zV S w x (.agg c.toArray)
abbrev yN (B:Nat) (w:World) (l:List Ex) (v:Value):Prop:=zI (fun k=>B≤k) w l v
theorem zI.kept {S:Nat→Prop} {w w':World} {l:List Ex} {v:Value} (h:zI S w l v) (hs:w.heap.size≤w'.heap.size) (hb:∀k,S k→k<w.heap.size→w'.heap[k]?=w.heap[k]?):zI S w' l v:=by
 rcases h with h | ⟨g,A,K,J,z,y,D,G,H,I,o,s,L⟩
 ·exact .inl h
 ·refine .inr ⟨g,A,K,J,z,y,D,Nat.lt_of_lt_of_le G hs,H,I,fun j u hj=>?_,s,fun j x c hx hc'=>zV.kept (L j x c hx hc') hs hb⟩
  rw [World.cell?_of_block (hb g D G)];exact o j u hj
theorem zV.of_row {S:Nat→Prop} {w:World} {l:List Ex} {v:Value} (h:zI S w l v) (k:Nat) (s:List UInt8) (n:Int) (line:Nat):zV S w (.mk k s n l line) (.agg #[.int .i64 k,.string (zb s),.int .i64 n,v,.int .i64 line]):=by
 rcases h with ⟨rfl,rfl⟩ | ⟨g,D,K,rfl,A,z,I,L,G,J,o,y,H⟩
 ·exact .leaf k s n line
 ·exact .node k s n l line g D K A z I L G J o y H
theorem zI.wide {S S':Nat→Prop} {w:World} {l:List Ex} {v:Value} (h:zI S w l v) (hS:∀k,S k→S' k):zI S' w l v:=by
 rcases h with h | ⟨g,A,J,I,z,y,G,L,D,H,o,s,K⟩
 ·exact .inl h
 ·exact .inr ⟨g,A,J,I,z,y,hS _ G,L,D,H,o,s,fun j x c hx hc'=>zV.wide (K j x c hx hc') hS⟩
theorem yN.kept {B:Nat} {w w':World} {l:List Ex} {v:Value} (h:yN B w l v) (hs:w.heap.size≤w'.heap.size) (hb:∀k,B≤k→k<w.heap.size→w'.heap[k]?=w.heap[k]?):yN B w' l v:=zI.kept h hs hb
theorem ZL.of_row {B:Nat} {w:World} {l:List Ex} {v:Value} (h:yN B w l v) (k:Nat) (s:List UInt8) (n:Int) (line:Nat):ZL B w (.mk k s n l line) (.agg #[.int .i64 k,.string (zb s),.int .i64 n,v,.int .i64 line]):=zV.of_row h k s n line
theorem ZL.mono {B B':Nat} {w:World} {x:Ex} {v:Value} (h:ZL B w x v) (hb:B'≤B):ZL B' w x v:=zV.wide h fun _ hk=>Nat.le_trans hb hk
theorem yN.mono {B B':Nat} {w:World} {l:List Ex} {v:Value} (h:yN B w l v) (hb:B'≤B):yN B' w l v:=zI.wide h fun _ hk=>Nat.le_trans hb hk
def zH (r g:Nat) (w:World) (res:PR Ex) (e:Ending) (w':World):Prop :=
 zd r w w'∧match res with
  | .error a=>e=ZH a
  | .ok (x,ts)=>∃v o cap,e=.returned v∧ZL w.heap.size w' x v∧zf r g o cap ts w'
def X5 (r g:Nat) (w:World) (res:PR (List Ex)) (e:Ending) (w':World):Prop :=
 zd r w w'∧match res with
  | .error a=>e=ZH a
  | .ok (l,ts)=>∃v o cap,e=.returned v∧yN w.heap.size w' l v∧zf r g o cap ts w'
theorem zd.cell {r:Nat} {w w':World} (h:zd r w w') {p:Addr} {v:Value} (hp:p.block≠r) (hc:w.cell? p=some v):w'.cell? p=some v:=by
 rw [World.cell?_of_block (h.block p.block (World.block_lt_of_cell? w _ hc) hp)];exact hc
abbrev set5 (w:World) (N:Nat) (a b c d e:Value):World:=((((w.setCell ⟨N,0,none⟩ a).setCell ⟨N,1,none⟩ b).setCell ⟨N,2,none⟩ c).setCell ⟨N,3,none⟩ d).setCell ⟨N,4,none⟩ e
theorem zT {w:World} {N:Nat} {x0 x1 x2 x3 x4:Value} {ty:TypeId} (h:w.heap[N]?=some (.cells #[x0,x1,x2,x3,x4] ty (0,0))) (a b c d e:Value) :
  (set5 w N a b c d e).cell? ⟨N,0,none⟩=some a∧(set5 w N a b c d e).cell? ⟨N,1,none⟩=some b∧(set5 w N a b c d e).cell? ⟨N,2,none⟩=some c∧(set5 w N a b c d e).cell? ⟨N,3,none⟩=some d∧(set5 w N a b c d e).cell? ⟨N,4,none⟩=some e:=by
 have o:w.cell? ⟨N,0,none⟩=some x0:=by simp only [World.cell?,h];rfl
 have s:w.cell? ⟨N,1,none⟩=some x1:=by simp only [World.cell?,h];rfl
 have A:w.cell? ⟨N,2,none⟩=some x2:=by simp only [World.cell?,h];rfl
 have y:w.cell? ⟨N,3,none⟩=some x3:=by simp only [World.cell?,h];rfl
 have z:w.cell? ⟨N,4,none⟩=some x4:=by simp only [World.cell?,h];rfl
 refine ⟨?_,?_,?_,?_,?_⟩
 ·rw [World.cell?_setCell_other _ _ _ _ (by simp),World.cell?_setCell_other _ _ _ _ (by simp),World.cell?_setCell_other _ _ _ _ (by simp),World.cell?_setCell_other _ _ _ _ (by simp)]
  exact World.cell?_setCell_same _ _ _ o
 ·rw [World.cell?_setCell_other _ _ _ _ (by simp),World.cell?_setCell_other _ _ _ _ (by simp),World.cell?_setCell_other _ _ _ _ (by simp)]
  exact World.cell?_setCell_same _ _ _ ((World.cell?_setCell_other _ _ _ _ (by simp)).trans s)
 ·rw [World.cell?_setCell_other _ _ _ _ (by simp),World.cell?_setCell_other _ _ _ _ (by simp)]
  exact World.cell?_setCell_same _ _ _ ((World.cell?_setCell_other _ _ _ _ (by simp)).trans ((World.cell?_setCell_other _ _ _ _ (by simp)).trans A))
 ·rw [World.cell?_setCell_other _ _ _ _ (by simp)]
  exact World.cell?_setCell_same _ _ _ ((World.cell?_setCell_other _ _ _ _ (by simp)).trans ((World.cell?_setCell_other _ _ _ _ (by simp)).trans ((World.cell?_setCell_other _ _ _ _ (by simp)).trans y)))
 ·exact World.cell?_setCell_same _ _ _ ((World.cell?_setCell_other _ _ _ _ (by simp)).trans ((World.cell?_setCell_other _ _ _ _ (by simp)).trans ((World.cell?_setCell_other _ _ _ _ (by simp)).trans ((World.cell?_setCell_other _ _ _ _ (by simp)).trans z))))
theorem zr (w:World) (N:Nat) (a b c d e:Value) {k:Nat} (hk:k≠N):(set5 w N a b c d e).heap[k]?=w.heap[k]?:=by
 rw [Below.heap_setCell _ _ _ _ (by simpa using hk),Below.heap_setCell _ _ _ _ (by simpa using hk),Below.heap_setCell _ _ _ _ (by simpa using hk),Below.heap_setCell _ _ _ _ (by simpa using hk),Below.heap_setCell _ _ _ _ (by simpa using hk)]
theorem ZO {r:Nat} {w0 w:World} {N:Nat} (h:zd r w0 w) (hN:w0.heap.size≤N) (a b c d e:Value):zd r w0 (set5 w N a b c d e):=by
 have o:Below 0 w (set5 w N a b c d e):=(((((Below.refl 0 w).setCell (p:=⟨N,0,none⟩) (Nat.zero_le _) a).setCell (p:=⟨N,1,none⟩) (Nat.zero_le _) b).setCell (p:=⟨N,2,none⟩) (Nat.zero_le _) c).setCell (p:=⟨N,3,none⟩) (Nat.zero_le _) d).setCell (p:=⟨N,4,none⟩) (Nat.zero_le _) e;exact ⟨o.os.trans h.os,o.tape.trans h.tape,o.output.trans h.output,Nat.le_trans h.size o.size,fun k hk hr=>(zr w N a b c d e (by omega)).trans (h.block k hk hr)⟩
theorem QD (r g o cap:Nat) (t u:Tk) (us:List Tk) (w:World) (h:zf r g o cap (t::u::us) w) (hk:t.k=1) (hu:zo u [40]=false) :
  Calls Tryz.prog 194 #[.pointer (some ⟨r,0,none⟩)] w (zH r g w (.ok (.mk 4 t.s 0 [] t.line,u::us))):=by
 have hf:=x9;have hr:=h.lt.1;have ad:=h.lt.2;have h0:=h.alloc (.cells #[.int .i64 0,.string ⟨#[]⟩,.int .i64 0,.slice none 0 0,.int .i64 0] 45);have ch:=Z3 r g o cap t (u::us) _ h0;obtain ⟨w2,G⟩:∃w2,w2=((w.alloc (.cells #[.int .i64 0,.string ⟨#[]⟩,.int .i64 0,.slice none 0 0,.int .i64 0] 45)).alloc (ZK t)).alloc (.cells #[.int .i64 4,.string ⟨#[]⟩,.int .i64 0,.slice none 0 0,.int .i64 t.line] 45):=⟨_,rfl⟩;have h2:zf r g o cap (t::u::us) w2:=by rw [G];exact (h0.alloc _).alloc _
 have U:Hid (zd r w w2):=by rw [G];exact (((zd.refl r w).alloc _).alloc _).alloc _
 have Z:=xe r g o cap t (u::us) w2 h2 (fun _=>by simp)
 simp only [hk,if_true] at Z;clear h h0 h2
 go_enter Tryz.func194,Tryz.ntmps194
 go_wp2_with fail
 refine ch.mono ?_;clear ch;rintro e w1 ⟨rfl,rfl⟩;simp only [VP];go_wp2_with fail
 rw [←G];refine Z.mono ?_;clear Z;rintro e J ⟨K,rfl,h3⟩
 have n2:w2.heap[w.heap.size+1+1]?=some (.cells #[.int .i64 4,.string ⟨#[]⟩,.int .i64 0,.slice none 0 0,.int .i64 t.line] 45 (0,0)):=by
  have hx:=World.alloc_heap_new ((w.alloc (.cells #[.int .i64 0,.string ⟨#[]⟩,.int .i64 0,.slice none 0 0,.int .i64 0] 45)).alloc (ZK t)) (.cells #[.int .i64 4,.string ⟨#[]⟩,.int .i64 0,.slice none 0 0,.int .i64 t.line] 45);rw [←G,show ((w.alloc (.cells #[.int .i64 0,.string ⟨#[]⟩,.int .i64 0,.slice none 0 0,.int .i64 0] 45)).alloc (ZK t)).heap.size=w.heap.size+1+1 by simp] at hx
  exact hx
 have n0:w2.heap[w.heap.size]?=some (.cells #[.int .i64 0,.string ⟨#[]⟩,.int .i64 0,.slice none 0 0,.int .i64 0] 45 (0,0)):=by
  rw [G,Below.heap_alloc _ _ _ (by simp;omega),Below.heap_alloc _ _ _ (by simp)]
  exact World.alloc_heap_new _ _
 have D:=(K.block _ (Array.getElem?_eq_some_iff.1 n2).1 (by omega)).trans n2
 have R:=(K.block _ (Array.getElem?_eq_some_iff.1 n0).1 (by omega)).trans n0
 have H:Hid (zd r w J):=U.out.trans K;clear n2 n0 K G U;have c0:J.cell? ⟨w.heap.size+1+1,0,none⟩=some (.int .i64 4):=by simp only [World.cell?,D];rfl
 have c1:J.cell? ⟨w.heap.size+1+1,1,none⟩=some (.string ⟨#[]⟩):=by simp only [World.cell?,D];rfl
 have c2:J.cell? ⟨w.heap.size+1+1,2,none⟩=some (.int .i64 0):=by simp only [World.cell?,D];rfl
 have c3:J.cell? ⟨w.heap.size+1+1,3,none⟩=some (.slice none 0 0):=by simp only [World.cell?,D];rfl
 have c4:J.cell? ⟨w.heap.size+1+1,4,none⟩=some (.int .i64 t.line):=by simp only [World.cell?,D];rfl
 have cf:J.frozen? ⟨w.heap.size+1+1,1,none⟩=false:=by simp only [World.frozen?,D];rfl
 obtain ⟨w4,y⟩:∃w4,w4=J.setCell ⟨w.heap.size+1+1,1,none⟩ (.string (zb t.s)):=⟨_,rfl⟩;have d0:w4.cell? ⟨w.heap.size+1+1,0,none⟩=some (.int .i64 4):=by rw [y,World.cell?_setCell_other _ _ _ _ (by simp)];exact c0
 have d1:w4.cell? ⟨w.heap.size+1+1,1,none⟩=some (.string (zb t.s)):=by rw [y];exact World.cell?_setCell_same _ _ _ c1
 have d2:w4.cell? ⟨w.heap.size+1+1,2,none⟩=some (.int .i64 0):=by rw [y,World.cell?_setCell_other _ _ _ _ (by simp)];exact c2
 have d3:w4.cell? ⟨w.heap.size+1+1,3,none⟩=some (.slice none 0 0):=by rw [y,World.cell?_setCell_other _ _ _ _ (by simp)];exact c3
 have d4:w4.cell? ⟨w.heap.size+1+1,4,none⟩=some (.int .i64 t.line):=by rw [y,World.cell?_setCell_other _ _ _ _ (by simp)];exact c4
 have z:∀k,k≠w.heap.size+1+1→w4.heap[k]?=J.heap[k]?:=fun k hk=>by rw [y];exact Below.heap_setCell _ _ _ _ (by simpa using hk)
 have Y:zf r g (o+5) (cap-1) (u::us) w4:=h3.keep (z r (by omega)) (z g (by omega))
 have Q:Hid (zd r w w4):=⟨by rw [y];exact H.out.os,by rw [y];exact H.out.tape,by rw [y];exact H.out.output,by rw [y];simpa using H.out.size,fun k hk hr=>(z k (by omega)).trans (H.out.block k hk hr)⟩
 have L:=(z w.heap.size (by omega)).trans R
 have W:=zev r g (o+5) (cap-1) u us [40] w4 Y;rw [hu] at W;have T:Hid (J.setCell ⟨w.heap.size+1+1,1,none⟩ (.string (zb t.s))=w4):=y.symm;obtain ⟨I,A⟩:∃I,I=(w4.alloc (ZK u)).alloc (ZK u):=⟨_,rfl⟩;rw [←A] at W;have aa:Hid (zf r g (o+5) (cap-1) (u::us) I):=by rw [A];exact (Y.alloc _).alloc _
 have ab:Hid (zd r w I):=by rw [A];exact (Q.out.alloc _).alloc _
 have e0:I.cell? ⟨w.heap.size+1+1,0,none⟩=some (.int .i64 4):=by rw [A];exact zj (zj d0 _) _
 have e1:I.cell? ⟨w.heap.size+1+1,1,none⟩=some (.string (zb t.s)):=by rw [A];exact zj (zj d1 _) _
 have e2:I.cell? ⟨w.heap.size+1+1,2,none⟩=some (.int .i64 0):=by rw [A];exact zj (zj d2 _) _
 have e3:I.cell? ⟨w.heap.size+1+1,3,none⟩=some (.slice none 0 0):=by rw [A];exact zj (zj d3 _) _
 have e4:I.cell? ⟨w.heap.size+1+1,4,none⟩=some (.int .i64 t.line):=by rw [A];exact zj (zj d4 _) _
 have V:w.heap.size<w4.heap.size:=(Array.getElem?_eq_some_iff.1 L).1
 have N:I.heap[w.heap.size]?=some (.cells #[.int .i64 0,.string ⟨#[]⟩,.int .i64 0,.slice none 0 0,.int .i64 0] 45 (0,0)):=by
  rw [A,Below.heap_alloc _ _ _ (by simp;omega),Below.heap_alloc _ _ _ V];exact L
 clear y z h3 Y D R L H Q d0 d1 d2 d3 d4 A V;go_wp2_with fail
 rw [T.out];refine W.mono ?_;clear W c0 c1 c2 c3 c4 cf;rintro e O ⟨rfl,rfl⟩;have q0:O.cell? ⟨w.heap.size,0,none⟩=some (.int .i64 0):=by simp only [World.cell?,N];rfl
 have q1:O.cell? ⟨w.heap.size,1,none⟩=some (.string ⟨#[]⟩):=by simp only [World.cell?,N];rfl
 have q2:O.cell? ⟨w.heap.size,2,none⟩=some (.int .i64 0):=by simp only [World.cell?,N];rfl
 have q3:O.cell? ⟨w.heap.size,3,none⟩=some (.slice none 0 0):=by simp only [World.cell?,N];rfl
 have q4:O.cell? ⟨w.heap.size,4,none⟩=some (.int .i64 0):=by simp only [World.cell?,N];rfl
 have qf:∀j,O.frozen? ⟨w.heap.size,j,none⟩=false:=fun j=>by simp only [World.frozen?,N];simp
 go_wp2
 obtain ⟨z0,z1,z2,z3,z4⟩:=zT N (.int .i64 4) (.string (zb t.s)) (.int .i64 0) (.slice none 0 0) (.int .i64 t.line);refine bodyPost_ret (v:=.agg #[.int .i64 4,.string (zb t.s),.int .i64 0,.slice none 0 0,.int .i64 t.line]) (by simp [results,Tryz.results194,go_sem,z0,z1,z2,z3,z4]) rfl ⟨ZO ab.out (Nat.le_refl _) _ _ _ _ _,_,o+5,cap-1,rfl,.leaf 4 t.s 0 t.line,?_⟩
 exact aa.out.keep (zr _ _ _ _ _ _ _ (by omega)) (zr _ _ _ _ _ _ _ (by omega))
def zbF (t:Tk):PR (List Ex)→PR Ex
 | .error a=>.error a
 | .ok (l,ts)=>.ok (.mk 5 t.s 0 l t.line,ts)
theorem zd.setOther {r:Nat} {w w':World} (h:zd r w w') {p:Addr} (hp:w.heap.size≤p.block) (v:Value):zd r w (w'.setCell p v):=by
 have o:Below 0 w' (w'.setCell p v):=(Below.refl 0 w').setCell (p:=p) (Nat.zero_le _) v;exact ⟨o.os.trans h.os,o.tape.trans h.tape,o.output.trans h.output,Nat.le_trans h.size o.size,fun k hk hr=>(Below.heap_setCell _ _ _ _ (by omega)).trans (h.block k hk hr)⟩
theorem V4 {w w':World} {p:Addr} (h:w'.heap[p.block]?=w.heap[p.block]?):w'.frozen? p=w.frozen? p:=by
 simp only [World.frozen?,h]
theorem zaM (r g o cap:Nat) (t u:Tk) (us:List Tk) (w:World) (res:PR (List Ex)) (h:zf r g o cap (t::u::us) w) (hk:t.k=1) (hu:zo u [40]=true)
  (hbr:∀w1 o1 cap1,zf r g o1 cap1 (u::us) w1→zd r w w1→Calls Tryz.prog 195 #[.pointer (some ⟨r,0,none⟩),.func (.func 44) #[.pointer (some ⟨r,0,none⟩)] #[]] w1 (X5 r g w1 res)) :
  Calls Tryz.prog 194 #[.pointer (some ⟨r,0,none⟩)] w (zH r g w (zbF t res)):=by
 have az:∀(fn:Fn) (first cap:Array Value) (w:World),(Instr.makeFunc fn first cap).run Tryz.prog w=.ok (.func fn first cap) w:=fun _ _ _ _=>rfl
 generalize hres:zbF t res=res';have hf:=x9;have hr:=h.lt.1;have ay:=h.lt.2;have h0:=h.alloc (.cells #[.int .i64 0,.string ⟨#[]⟩,.int .i64 0,.slice none 0 0,.int .i64 0] 45);have ch:=Z3 r g o cap t (u::us) _ h0;obtain ⟨w2,L⟩:∃w2,w2=((w.alloc (.cells #[.int .i64 0,.string ⟨#[]⟩,.int .i64 0,.slice none 0 0,.int .i64 0] 45)).alloc (ZK t)).alloc (.cells #[.int .i64 4,.string ⟨#[]⟩,.int .i64 0,.slice none 0 0,.int .i64 t.line] 45):=⟨_,rfl⟩;have h2:zf r g o cap (t::u::us) w2:=by rw [L];exact (h0.alloc _).alloc _
 have aj:Hid (zd r w w2):=by rw [L];exact (((zd.refl r w).alloc _).alloc _).alloc _
 have cn:=xe r g o cap t (u::us) w2 h2 (fun _=>by simp)
 simp only [hk,if_true] at cn;clear h h0 h2
 go_enter Tryz.func194,Tryz.ntmps194
 go_wp2_with fail
 refine ch.mono ?_;clear ch;rintro e w1 ⟨rfl,rfl⟩;simp only [VP];go_wp2_with fail
 rw [←L];refine cn.mono ?_;clear cn;rintro e V ⟨W,rfl,h3⟩
 have n2:w2.heap[w.heap.size+1+1]?=some (.cells #[.int .i64 4,.string ⟨#[]⟩,.int .i64 0,.slice none 0 0,.int .i64 t.line] 45 (0,0)):=by
  have hx:=World.alloc_heap_new ((w.alloc (.cells #[.int .i64 0,.string ⟨#[]⟩,.int .i64 0,.slice none 0 0,.int .i64 0] 45)).alloc (ZK t)) (.cells #[.int .i64 4,.string ⟨#[]⟩,.int .i64 0,.slice none 0 0,.int .i64 t.line] 45);rw [←L,show ((w.alloc (.cells #[.int .i64 0,.string ⟨#[]⟩,.int .i64 0,.slice none 0 0,.int .i64 0] 45)).alloc (ZK t)).heap.size=w.heap.size+1+1 by simp] at hx
  exact hx
 have n0:w2.heap[w.heap.size]?=some (.cells #[.int .i64 0,.string ⟨#[]⟩,.int .i64 0,.slice none 0 0,.int .i64 0] 45 (0,0)):=by
  rw [L,Below.heap_alloc _ _ _ (by simp;omega),Below.heap_alloc _ _ _ (by simp)]
  exact World.alloc_heap_new _ _
 have J:=(W.block _ (Array.getElem?_eq_some_iff.1 n2).1 (by omega)).trans n2
 have ag:=(W.block _ (Array.getElem?_eq_some_iff.1 n0).1 (by omega)).trans n0
 have N:Hid (zd r w V):=aj.out.trans W;clear n2 n0 W L aj;have c0:V.cell? ⟨w.heap.size+1+1,0,none⟩=some (.int .i64 4):=by simp only [World.cell?,J];rfl
 have c1:V.cell? ⟨w.heap.size+1+1,1,none⟩=some (.string ⟨#[]⟩):=by simp only [World.cell?,J];rfl
 have c2:V.cell? ⟨w.heap.size+1+1,2,none⟩=some (.int .i64 0):=by simp only [World.cell?,J];rfl
 have c3:V.cell? ⟨w.heap.size+1+1,3,none⟩=some (.slice none 0 0):=by simp only [World.cell?,J];rfl
 have c4:V.cell? ⟨w.heap.size+1+1,4,none⟩=some (.int .i64 t.line):=by simp only [World.cell?,J];rfl
 have cf:V.frozen? ⟨w.heap.size+1+1,1,none⟩=false:=by simp only [World.frozen?,J];rfl
 obtain ⟨w4,z⟩:∃w4,w4=V.setCell ⟨w.heap.size+1+1,1,none⟩ (.string (zb t.s)):=⟨_,rfl⟩;have d0:w4.cell? ⟨w.heap.size+1+1,0,none⟩=some (.int .i64 4):=by rw [z,World.cell?_setCell_other _ _ _ _ (by simp)];exact c0
 have d1:w4.cell? ⟨w.heap.size+1+1,1,none⟩=some (.string (zb t.s)):=by rw [z];exact World.cell?_setCell_same _ _ _ c1
 have d2:w4.cell? ⟨w.heap.size+1+1,2,none⟩=some (.int .i64 0):=by rw [z,World.cell?_setCell_other _ _ _ _ (by simp)];exact c2
 have d3:w4.cell? ⟨w.heap.size+1+1,3,none⟩=some (.slice none 0 0):=by rw [z,World.cell?_setCell_other _ _ _ _ (by simp)];exact c3
 have d4:w4.cell? ⟨w.heap.size+1+1,4,none⟩=some (.int .i64 t.line):=by rw [z,World.cell?_setCell_other _ _ _ _ (by simp)];exact c4
 have y:∀k,k≠w.heap.size+1+1→w4.heap[k]?=V.heap[k]?:=fun k hk=>by rw [z];exact Below.heap_setCell _ _ _ _ (by simpa using hk)
 have h4:zf r g (o+5) (cap-1) (u::us) w4:=h3.keep (y r (by omega)) (y g (by omega))
 have aa:Hid (zd r w w4):=⟨by rw [z];exact N.out.os,by rw [z];exact N.out.tape,by rw [z];exact N.out.output,by rw [z];simpa using N.out.size,fun k hk hr=>(y k (by omega)).trans (N.out.block k hk hr)⟩
 have Z:=(y w.heap.size (by omega)).trans ag
 have ci:=zev r g (o+5) (cap-1) u us [40] w4 h4;rw [hu] at ci;have ad:Hid (V.setCell ⟨w.heap.size+1+1,1,none⟩ (.string (zb t.s))=w4):=z.symm;obtain ⟨Q,A⟩:∃Q,Q=(w4.alloc (ZK u)).alloc (ZK u):=⟨_,rfl⟩;rw [←A] at ci;have am:Hid (zf r g (o+5) (cap-1) (u::us) Q):=by rw [A];exact (h4.alloc _).alloc _
 have aq:Hid (zd r w Q):=by rw [A];exact (aa.out.alloc _).alloc _
 have e0:Q.cell? ⟨w.heap.size+1+1,0,none⟩=some (.int .i64 4):=by rw [A];exact zj (zj d0 _) _
 have e1:Q.cell? ⟨w.heap.size+1+1,1,none⟩=some (.string (zb t.s)):=by rw [A];exact zj (zj d1 _) _
 have e2:Q.cell? ⟨w.heap.size+1+1,2,none⟩=some (.int .i64 0):=by rw [A];exact zj (zj d2 _) _
 have e3:Q.cell? ⟨w.heap.size+1+1,3,none⟩=some (.slice none 0 0):=by rw [A];exact zj (zj d3 _) _
 have e4:Q.cell? ⟨w.heap.size+1+1,4,none⟩=some (.int .i64 t.line):=by rw [A];exact zj (zj d4 _) _
 have ak:w.heap.size<w4.heap.size:=(Array.getElem?_eq_some_iff.1 Z).1
 have p0:Q.heap[w.heap.size]?=some (.cells #[.int .i64 0,.string ⟨#[]⟩,.int .i64 0,.slice none 0 0,.int .i64 0] 45 (0,0)):=by
  rw [A,Below.heap_alloc _ _ _ (by simp;omega),Below.heap_alloc _ _ _ ak];exact Z
 have ao:Q.frozen? ⟨w.heap.size+1+1,0,none⟩=false:=by
  have R:w4.frozen? ⟨w.heap.size+1+1,0,none⟩=false:=by rw [z,World.frozen?_setCell];simp only [World.frozen?,J];rfl
  have U:=World.block_lt_of_cell? w4 _ d0;rw [A];simp only [World.frozen?] at R ⊢;rw [Below.heap_alloc _ _ _ (by simp;simp at U;omega),Below.heap_alloc _ _ _ U];exact R
 have ab:Q.frozen? ⟨w.heap.size+1+1,3,none⟩=false:=by
  have R:w4.frozen? ⟨w.heap.size+1+1,3,none⟩=false:=by rw [z,World.frozen?_setCell];simp only [World.frozen?,J];rfl
  have U:=World.block_lt_of_cell? w4 _ d0;rw [A];simp only [World.frozen?] at R ⊢;rw [Below.heap_alloc _ _ _ (by simp;simp at U;omega),Below.heap_alloc _ _ _ U];exact R
 clear z y h3 h4 J ag Z N aa d0 d1 d2 d3 d4 A ak;go_wp2_with fail
 rw [ad.out];refine ci.mono ?_;clear ci c0 c1 c2 c3 c4 cf;rintro e w6 ⟨rfl,rfl⟩;obtain ⟨w7,H⟩:∃w7,w7=w6.setCell ⟨w.heap.size+1+1,0,none⟩ (.int .i64 5):=⟨_,rfl⟩;have an:Hid (w6.setCell ⟨w.heap.size+1+1,0,none⟩ (.int .i64 5)=w7):=H.symm;have y:∀k,k≠w.heap.size+1+1→w7.heap[k]?=w6.heap[k]?:=fun k hk=>by rw [H];exact Below.heap_setCell _ _ _ _ (by simpa using hk)
 have h7:zf r g (o+5) (cap-1) (u::us) w7:=am.out.keep (y r (by omega)) (y g (by omega))
 have k7:zd r w w7:=by rw [H];exact aq.out.setOther (by simp;omega) _
 have af:Hid (zd r w w7):=k7;have cb:=hbr w7 _ _ h7 k7;have f0:w7.cell? ⟨w.heap.size+1+1,0,none⟩=some (.int .i64 5):=by rw [H];exact World.cell?_setCell_same _ _ _ e0
 have f1:w7.cell? ⟨w.heap.size+1+1,1,none⟩=some (.string (zb t.s)):=by rw [H,World.cell?_setCell_other _ _ _ _ (by simp)];exact e1
 have f2:w7.cell? ⟨w.heap.size+1+1,2,none⟩=some (.int .i64 0):=by rw [H,World.cell?_setCell_other _ _ _ _ (by simp)];exact e2
 have f3:w7.cell? ⟨w.heap.size+1+1,3,none⟩=some (.slice none 0 0):=by rw [H,World.cell?_setCell_other _ _ _ _ (by simp)];exact e3
 have f4:w7.cell? ⟨w.heap.size+1+1,4,none⟩=some (.int .i64 t.line):=by rw [H,World.cell?_setCell_other _ _ _ _ (by simp)];exact e4
 have ff:w7.frozen? ⟨w.heap.size+1+1,3,none⟩=false:=by rw [H,World.frozen?_setCell];exact ab
 have p7:=(y w.heap.size (by omega)).trans p0
 clear hbr h7 k7 H y p0;go_wp2_with fail
 rw [an.out];refine cb.mono ?_;clear cb e0 e1 e2 e3 e4 ao ab;rintro e w8 ⟨G,T⟩;subst hres;rcases res with a | ⟨l,ts⟩
 ·obtain rfl:=T
  exact ⟨rfl,af.out.trans G,rfl⟩
 ·obtain ⟨v,o8,Y,rfl,K,ae⟩:=T
  have O:r≠w.heap.size+1+1:=by omega
  have g0:=G.cell (p:=⟨w.heap.size+1+1,0,none⟩) (fun h=>O h.symm) f0
  have g1:=G.cell (p:=⟨w.heap.size+1+1,1,none⟩) (fun h=>O h.symm) f1
  have g2:=G.cell (p:=⟨w.heap.size+1+1,2,none⟩) (fun h=>O h.symm) f2
  have g3:=G.cell (p:=⟨w.heap.size+1+1,3,none⟩) (fun h=>O h.symm) f3
  have g4:=G.cell (p:=⟨w.heap.size+1+1,4,none⟩) (fun h=>O h.symm) f4
  have gf:w8.frozen? ⟨w.heap.size+1+1,3,none⟩=false:=(V4 (p:=⟨w.heap.size+1+1,3,none⟩) (G.block _ (World.block_lt_of_cell? w7 _ f3) (fun h=>O h.symm))).trans ff
  have p8:=(G.block w.heap.size (Array.getElem?_eq_some_iff.1 p7).1 (by omega)).trans p7
  have ap:Hid (zd r w w8):=af.out.trans G;have aw:w.heap.size+1+1<w7.heap.size:=World.block_lt_of_cell? w7 _ f0;obtain ⟨I,D⟩:∃I,I=w8.setCell ⟨w.heap.size+1+1,3,none⟩ v:=⟨_,rfl⟩;have ax:Hid (I=w8.setCell ⟨w.heap.size+1+1,3,none⟩ v):=D;have y:∀k,k≠w.heap.size+1+1→I.heap[k]?=w8.heap[k]?:=fun k hk=>by rw [D];exact Below.heap_setCell _ _ _ _ (by simpa using hk)
  have ai:w8.heap.size≤I.heap.size:=by rw [D];simp
  have ah:Hid (yN w7.heap.size I l v):=K.kept ai fun k hB _=>y k (by omega)
  have ar:Hid (zf r g o8 Y ts I):=ae.keep (y r (by omega)) (y g (by omega))
  have al:Hid (zd r w I):=by rw [D];exact ap.out.setOther (by simp;omega) _
  have p9:=(y w.heap.size (by omega)).trans p8
  have i0:I.cell? ⟨w.heap.size+1+1,0,none⟩=some (.int .i64 5):=by rw [D,World.cell?_setCell_other _ _ _ _ (by simp)];exact g0
  have i1:I.cell? ⟨w.heap.size+1+1,1,none⟩=some (.string (zb t.s)):=by rw [D,World.cell?_setCell_other _ _ _ _ (by simp)];exact g1
  have i2:I.cell? ⟨w.heap.size+1+1,2,none⟩=some (.int .i64 0):=by rw [D,World.cell?_setCell_other _ _ _ _ (by simp)];exact g2
  have i3:I.cell? ⟨w.heap.size+1+1,3,none⟩=some v:=by rw [D];exact World.cell?_setCell_same _ _ _ g3
  have i4:I.cell? ⟨w.heap.size+1+1,4,none⟩=some (.int .i64 t.line):=by rw [D,World.cell?_setCell_other _ _ _ _ (by simp)];exact g4
  have q0:I.cell? ⟨w.heap.size,0,none⟩=some (.int .i64 0):=by simp only [World.cell?,p9];rfl
  have q1:I.cell? ⟨w.heap.size,1,none⟩=some (.string ⟨#[]⟩):=by simp only [World.cell?,p9];rfl
  have q2:I.cell? ⟨w.heap.size,2,none⟩=some (.int .i64 0):=by simp only [World.cell?,p9];rfl
  have q3:I.cell? ⟨w.heap.size,3,none⟩=some (.slice none 0 0):=by simp only [World.cell?,p9];rfl
  have q4:I.cell? ⟨w.heap.size,4,none⟩=some (.int .i64 0):=by simp only [World.cell?,p9];rfl
  have qf:∀j,I.frozen? ⟨w.heap.size,j,none⟩=false:=fun j=>by simp only [World.frozen?,p9];simp
  have au:∃a n c,v=.slice a n c:=by
   rcases K with ⟨-,rfl⟩ | ⟨_,_,_,rfl,_⟩
   ·exact ⟨_,_,_,rfl⟩
   ·exact ⟨_,_,_,rfl⟩
  obtain ⟨va,vn,vc,rfl⟩:=au;clear y K ae f0 f1 f2 f3 f4 ff G p8 g0 g1 g2 g4;have av:=D.symm;clear D;go_wp2
  obtain ⟨z0,z1,z2,z3,z4⟩:=zT p9 (.int .i64 5) (.string (zb t.s)) (.int .i64 0) (.slice va vn vc) (.int .i64 t.line);refine bodyPost_ret (v:=.agg #[.int .i64 5,.string (zb t.s),.int .i64 0,.slice va vn vc,.int .i64 t.line]) (by simp [results,Tryz.results194,go_sem,z0,z1,z2,z3,z4]) rfl ⟨ZO al.out (Nat.le_refl _) _ _ _ _ _,_,o8,Y,rfl,?_,?_⟩
  ·have K:yN w7.heap.size (set5 I w.heap.size (.int .i64 5) (.string (zb t.s)) (.int .i64 0) (.slice va vn vc) (.int .i64 t.line)) l (.slice va vn vc) :=
    ah.out.kept (by simp) fun k hB _=>zr _ _ _ _ _ _ _ (by omega)
   exact ZL.of_row (K.mono (by omega)) 5 t.s 0 t.line
  ·exact ar.out.keep (zr _ _ _ _ _ _ _ (by omega)) (zr _ _ _ _ _ _ _ (by omega))
theorem zV.agg {S:Nat→Prop} {w:World} {x:Ex} {v:Value} (h:zV S w x v):∃(a:Int) (b:ByteArray) (c:Int) (d0:Option Addr) (d1 d2:Nat) (e:Int),v=.agg #[.int .i64 a,.string b,.int .i64 c,.slice d0 d1 d2,.int .i64 e]:=by
 cases h with
 | leaf=>exact ⟨_,_,_,_,_,_,_,rfl⟩
 | node=>exact ⟨_,_,_,_,_,_,_,rfl⟩
abbrev Zu:Obj:=.cells #[.int .i64 0,.string ⟨#[]⟩,.int .i64 0,.slice none 0 0,.int .i64 0] 45
theorem zfF (r g:Nat) (w:World) (res:PR Ex) (hr:r<w.heap.size) (hgw:g<w.heap.size)
  (hb:Calls Tryz.prog 86 #[.pointer (some ⟨r,0,none⟩),.int .i64 1] (w.alloc Zu) (zH r g (w.alloc Zu) res)) :
  Calls Tryz.prog 44 #[.pointer (some ⟨r,0,none⟩)] w (zH r g w res):=by
 go_enter Tryz.func44,Tryz.ntmps44
 go_wp2_with fail
 refine hb.mono ?_;clear hb;rintro e w1 ⟨s,h⟩;have J:zd r w w1:=((zd.refl r w).alloc _).trans s;rcases res with a | ⟨x,ts⟩
 ·obtain rfl:=h
  exact ⟨rfl,J,rfl⟩
 ·obtain ⟨v,o,z,rfl,I,A⟩:=h
  obtain ⟨a,b,c,H,G,D,e,rfl⟩:=I.agg;have V:(w.alloc Zu).heap.size=w.heap.size+1:=by simp
  have y:w1.heap[w.heap.size]?=some Zu:=(s.block w.heap.size (by omega) (by omega)).trans (World.alloc_heap_new w _)
  have q0:w1.cell? ⟨w.heap.size,0,none⟩=some (.int .i64 0):=by simp only [World.cell?,y];rfl
  have q1:w1.cell? ⟨w.heap.size,1,none⟩=some (.string ⟨#[]⟩):=by simp only [World.cell?,y];rfl
  have q2:w1.cell? ⟨w.heap.size,2,none⟩=some (.int .i64 0):=by simp only [World.cell?,y];rfl
  have Y:w1.cell? ⟨w.heap.size,3,none⟩=some (.slice none 0 0):=by simp only [World.cell?,y];rfl
  have Z:w1.cell? ⟨w.heap.size,4,none⟩=some (.int .i64 0):=by simp only [World.cell?,y];rfl
  have W:∀j,w1.frozen? ⟨w.heap.size,j,none⟩=false:=fun j=>by simp only [World.frozen?,y];simp
  have O:Hid (ZL (w.alloc Zu).heap.size w1 x (.agg #[.int .i64 a,.string b,.int .i64 c,.slice H G D,.int .i64 e])):=I;have K:Hid (zf r g o z ts w1):=A;have U:Hid (zd r w w1):=J;clear s I A J;go_wp2
  obtain ⟨N,Q,L,T,R⟩:=zT y (.int .i64 a) (.string b) (.int .i64 c) (.slice H G D) (.int .i64 e);refine bodyPost_ret (v:=.agg #[.int .i64 a,.string b,.int .i64 c,.slice H G D,.int .i64 e]) (by simp [results,Tryz.results44,go_sem,N,Q,L,T,R]) rfl ⟨ZO U.out (Nat.le_refl _) _ _ _ _ _,_,o,z,rfl,?_,?_⟩
  ·exact (O.out.kept (w':=set5 w1 w.heap.size (.int .i64 a) (.string b) (.int .i64 c) (.slice H G D) (.int .i64 e)) (by simp) fun k hB _=>zr _ _ _ _ _ _ _ (by omega)).mono (by omega)
  ·exact K.out.keep (zr _ _ _ _ _ _ _ (by omega)) (zr _ _ _ _ _ _ _ (by omega))
theorem za {α β:Type} {x:Option (PR α)} {k:α→List Tk→Option (PR β)} {p:β × List Tk} (h:zm x k=some (.ok p)):∃y us,x=some (.ok (y,us))∧k y us=some (.ok p):=by
 unfold zm at h
 cases x with
 | none=>cases h
 | some x =>
  cases x with
  | error a=>cases h
  | ok q=>exact ⟨q.1,q.2,rfl,h⟩
theorem Z1 {ts:List Tk} (h:zg ts) (hk:(zw ts).k≠0):zg ts.tail:=by
 obtain ⟨t,o,rfl⟩:=h.cons;exact h.tail hk
theorem zy {ts:List Tk} {s:List UInt8} (h:zg ts) (hk:zo (zw ts) s=true):zg ts.tail:=Z1 h (zi hk)
theorem zU {s:List UInt8} {ts us:List Tk} {y:Unit} (h:zW s ts=some (.ok (y,us))) (hE:zg ts):zg us:=by
 unfold zW at h
 split at h
 ·rename_i o
  simp only [Option.some.injEq,Except.ok.injEq,Prod.mk.injEq] at h;rw [←h.2];exact zy hE o
 ·cases h
theorem ZM {s:List UInt8} {ts us:List Tk} (h:yo ts=some (.ok (s,us))) (hE:zg ts):zg us:=by
 unfold yo at h
 split at h
 ·rename_i o
  simp only [Option.some.injEq,Except.ok.injEq,Prod.mk.injEq] at h;rw [←h.2];exact Z1 hE (by omega)
 ·cases h
theorem z8 {α:Type} {x y:α} {ts us:List Tk} (h:(some (.ok (x,ts)):Option (PR α))=some (.ok (y,us))) (hE:zg ts):zg us:=by
 simp only [Option.some.injEq,Except.ok.injEq,Prod.mk.injEq] at h;rw [←h.2];exact hE
theorem Ze (f:Nat) :
  (∀least ts x us,zh f least ts=some (.ok (x,us))→zg ts→zg us)∧(∀least e ts x us,ZD f least e ts=some (.ok (x,us))→zg ts→zg us) ∧
  (∀ts x us,Zp f ts=some (.ok (x,us))→zg ts→zg us)∧(∀e ts x us,zE f e ts=some (.ok (x,us))→zg ts→zg us)∧(∀ts x us,zQ f ts=some (.ok (x,us))→zg ts→zg us) ∧
  (∀pre ts x us,yp f pre ts=some (.ok (x,us))→zg ts→zg us)∧(∀ts x us,zK f ts=some (.ok (x,us))→zg ts→zg us):=by
 induction f with
 | zero=>refine ⟨?_,?_,?_,?_,?_,?_,?_⟩ <;> intros <;> simp_all [zh,ZD,Zp,zE,zQ,yp,zK]
 | succ f ih =>
  obtain ⟨I,W,V,L,Z,O,U⟩:=ih;refine ⟨fun least ts x us h hE=>?_,fun least e ts x us h hE=>?_,fun ts x us h hE=>?_,fun e ts x us h hE=>?_,fun ts x us h hE=>?_,fun pre ts x us h hE=>?_,fun ts x us h hE=>?_⟩
  ·rw [zh] at h
   split at h
   ·exact V _ _ _ h hE
   ·obtain ⟨y,D,s,o⟩:=za h
    exact W _ _ _ _ _ o (I _ _ _ _ s hE)
  ·rw [ZD] at h
   split at h
   ·rename_i A
    obtain ⟨y,D,s,o⟩:=za h;exact W _ _ _ _ _ o (I _ _ _ _ s (Z1 hE (by omega)))
   ·exact z8 h hE
  ·rw [Zp] at h
   split at h
   ·rename_i A
    obtain ⟨y,D,s,o⟩:=za h;exact z8 o (V _ _ _ s (Z1 hE (by omega)))
   ·obtain ⟨y,D,s,o⟩:=za h
    exact L _ _ _ _ o (Z _ _ _ s hE)
  ·rw [zE] at h
   split at h
   ·rename_i A
    obtain ⟨y,D,s,o⟩:=za h;obtain ⟨z,K,H,G⟩:=za o;exact L _ _ _ _ G (zU H (I _ _ _ _ s (zy hE A)))
   ·split at h
    ·rename_i A
     obtain ⟨y,D,s,o⟩:=za h;exact L _ _ _ _ o (ZM s (zy hE A))
    ·exact z8 h hE
  ·rw [zQ] at h
   split at h
   ·rename_i A;exact z8 h (Z1 hE (by omega))
   split at h
   ·rename_i A;exact z8 h (Z1 hE (by omega))
   split at h
   ·rename_i A
    have T:=Z1 hE (by omega)
    split at h
    ·obtain ⟨y,D,s,o⟩:=za h
     exact z8 o (U _ _ _ s T)
    ·exact z8 h T
   split at h
   ·rename_i A;exact z8 h (zy hE A)
   split at h
   ·rename_i A;exact z8 h (zy hE A)
   split at h
   ·rename_i A
    obtain ⟨y,D,s,o⟩:=za h;obtain ⟨z,K,H,G⟩:=za o;exact z8 G (U _ _ _ H (ZM s (zy hE A)))
   split at h
   ·rename_i A
    obtain ⟨y,D,s,o⟩:=za h;obtain ⟨z,K,H,G⟩:=za o;exact z8 G (zU H (O _ _ _ _ s (zy hE A)))
   ·obtain ⟨y,D,s,o⟩:=za h
    obtain ⟨z,K,H,G⟩:=za o;obtain ⟨Y,Q,R,N⟩:=za G;exact z8 N (zU R (I _ _ _ _ H (zU s hE)))
  ·rw [yp] at h
   obtain ⟨y,D,s,o⟩:=za h;have J:=I _ _ _ _ s hE
   split at o
   ·rename_i A;exact O _ _ _ _ o (zy J A)
   ·exact z8 o J
  ·rw [zK] at h
   obtain ⟨y,D,s,o⟩:=za h;have J:=zU s hE
   split at o
   ·rename_i A;exact z8 o (zy J A)
   ·obtain ⟨z,K,H,G⟩:=za o
    obtain ⟨Y,Q,R,N⟩:=za G;exact z8 N (zU R (O _ _ _ _ H J))
end Go.Proofs.YtpejpbbdgblbeaaGreatDoor
