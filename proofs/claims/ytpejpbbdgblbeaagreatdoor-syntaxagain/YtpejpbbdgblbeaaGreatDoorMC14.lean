import Derived.Test.YtpejpbbdgblbeaaGreatDoorMC8
namespace Go.Proofs.YtpejpbbdgblbeaaGreatDoor
open Go.RowKit Go.Shelf
set_option maxHeartbeats 16000000
set_option maxRecDepth 100000
def Ex.line:Ex→Nat | .mk _ _ _ _ l=>l
def Ex.kind:Ex→Nat | .mk k _ _ _ _=>k
def zv:List Tk→Tk | t::_=>t | []=>⟨0,[],0,0,0⟩
abbrev PR (α:Type):=Except Nat (α × List Tk)
def zh {α β:Type} (x:Option (PR α)) (k:α→List Tk→Option (PR β)):Option (PR β) :=
 match x with
 | none=>none
 | some (.error a)=>some (.error a)
 | some (.ok (y,ts))=>k y ts
def zR (s:List UInt8) (ts:List Tk):Option (PR Unit):=some (if zm (zv ts) s=true then .ok ((),ts.tail) else .error (zv ts).at0)
def Z3 (ts:List Tk):Option (PR (List UInt8)):=some (if (zv ts).k=1 then .ok ((zv ts).s,ts.tail) else .error (zv ts).at0)
mutual
def zf:Nat→Nat→List Tk→Option (PR Ex)
 | 0,_,_=>none
 | f+1,least,ts=>if 6<least then Zg f ts else zh (zf f (least+1) ts) fun e ts=>Zp f least e ts
def Zp:Nat→Nat→Ex→List Tk→Option (PR Ex)
 | 0,_,_,_=>none
 | f+1,least,e,ts=>if (zv ts).k=4∧levelOf (zv ts).s=least then zh (zf f (least+1) ts.tail) fun e2 ts'=>Zp f least (.mk 7 (zv ts).s 0 [e,e2] e.line) ts' else some (.ok (e,ts))
def Zg:Nat→List Tk→Option (PR Ex)
 | 0,_=>none
 | f+1,ts=>if (zv ts).k=4∧((zv ts).s=[45]∨(zv ts).s=[33]) then zh (Zg f ts.tail) fun e ts'=>some (.ok (.mk 6 (zv ts).s 0 [e] (zv ts).line,ts')) else zh (zC f ts) fun e ts=>zw f e ts
def zw:Nat→Ex→List Tk→Option (PR Ex)
 | 0,_,_=>none
 | f+1,e,ts =>
  if zm (zv ts) [91]=true then zh (zf f 1 ts.tail) fun i ts=>zh (zR [93] ts) fun _ ts=>zw f (.mk 8 [] 0 [e,i] e.line) ts
  else if zm (zv ts) [46]=true then zh (Z3 ts.tail) fun s ts=>zw f (.mk 9 s 0 [e] e.line) ts
  else some (.ok (e,ts))
def zC:Nat→List Tk→Option (PR Ex)
 | 0,_=>none
 | f+1,ts =>
  if (zv ts).k=2 then some (.ok (.mk 1 [] (zv ts).n [] (zv ts).line,ts.tail))
  else if (zv ts).k=3 then some (.ok (.mk 3 (zv ts).s 0 [] (zv ts).line,ts.tail))
  else if (zv ts).k=1 then
   if zm (zv ts.tail) [40]=true then zh (zA f ts.tail) fun l ts'=>some (.ok (.mk 5 (zv ts).s 0 l (zv ts).line,ts')) else some (.ok (.mk 4 (zv ts).s 0 [] (zv ts).line,ts.tail))
  else if zm (zv ts) [116,114,117,101]=true then some (.ok (.mk 2 [] 1 [] (zv ts).line,ts.tail))
  else if zm (zv ts) [102,97,108,115,101]=true then some (.ok (.mk 2 [] 0 [] (zv ts).line,ts.tail))
  else if zm (zv ts) [110,101,119]=true then zh (Z3 ts.tail) fun s ts'=>zh (zA f ts') fun l ts'=>some (.ok (.mk 11 s 0 l (zv ts).line,ts'))
  else if zm (zv ts) [91]=true then zh (ZY f [] ts.tail) fun l ts'=>zh (zR [93] ts') fun _ ts'=>some (.ok (.mk 10 [] 0 l (zv ts).line,ts'))
  else zh (zR [40] ts) fun _ ts=>zh (zf f 1 ts) fun e ts=>zh (zR [41] ts) fun _ ts=>some (.ok (e,ts))
def ZY:Nat→List Ex→List Tk→Option (PR (List Ex))
 | 0,_,_=>none
 | f+1,pre,ts=>zh (zf f 1 ts) fun e ts=>if zm (zv ts) [44]=true then ZY f (pre++[e]) ts.tail else some (.ok (pre++[e],ts))
def zA:Nat→List Tk→Option (PR (List Ex))
 | 0,_=>none
 | f+1,ts=>zh (zR [40] ts) fun _ ts=>if zm (zv ts) [41]=true then some (.ok ([],ts.tail)) else zh (ZY f [] ts) fun l ts=>zh (zR [41] ts) fun _ ts=>some (.ok (l,ts))
end
theorem zG {α β:Type} {x y:Option (PR α)} {k l:α→List Tk→Option (PR β)} {r:PR β} (h:zh x k=some r) (hx:∀r,x=some r→y=some r) (hk:∀a ts r,k a ts=some r→l a ts=some r):zh y l=some r:=by
 unfold zh at h ⊢
 cases x with
 | none=>cases h
 | some x =>
  rw [hx x rfl];cases x with
  | error a=>exact h
  | ok p=>exact hk _ _ _ h
theorem Yi (f:Nat) :
  (∀least ts r,zf f least ts=some r→zf (f+1) least ts=some r)∧(∀least e ts r,Zp f least e ts=some r→Zp (f+1) least e ts=some r) ∧
  (∀ts r,Zg f ts=some r→Zg (f+1) ts=some r)∧(∀e ts r,zw f e ts=some r→zw (f+1) e ts=some r)∧(∀ts r,zC f ts=some r→zC (f+1) ts=some r) ∧
  (∀pre ts r,ZY f pre ts=some r→ZY (f+1) pre ts=some r)∧(∀ts r,zA f ts=some r→zA (f+1) ts=some r):=by
 induction f with
 | zero=>refine ⟨?_,?_,?_,?_,?_,?_,?_⟩ <;> intros <;> rename_i h <;> simp [zf,Zp,Zg,zw,zC,ZY,zA] at h
 | succ f ih =>
  obtain ⟨y,G,D,A,I,z,H⟩:=ih;refine ⟨fun least ts r h=>?_,fun least e ts r h=>?_,fun ts r h=>?_,fun e ts r h=>?_,fun ts r h=>?_,fun pre ts r h=>?_,fun ts r h=>?_⟩
  ·rw [zf] at h ⊢
   split at h
   ·rename_i o;rw [if_pos o];exact D _ _ h
   ·rename_i o;rw [if_neg o];exact zG h (y _ _) fun a ts r=>G _ _ _ _
  ·rw [Zp] at h ⊢
   split at h
   ·rename_i o;rw [if_pos o];exact zG h (y _ _) fun a ts r=>G _ _ _ _
   ·rename_i o;rw [if_neg o];exact h
  ·rw [Zg] at h ⊢
   split at h
   ·rename_i o;rw [if_pos o];exact zG h (D _) fun a ts r h=>h
   ·rename_i o;rw [if_neg o];exact zG h (I _) fun a ts r=>A _ _ _
  ·rw [zw] at h ⊢
   split at h
   ·rename_i o;rw [if_pos o];exact zG h (y _ _) fun a ts r h=>zG h (fun _ h=>h) fun a ts r=>A _ _ _
   ·rename_i o;rw [if_neg o]
    split at h
    ·rename_i o;rw [if_pos o];exact zG h (fun _ h=>h) fun a ts r=>A _ _ _
    ·rename_i o;rw [if_neg o];exact h
  ·rw [zC] at h ⊢
   repeat' split at h
   all_goals simp_all only [if_true,if_false,Bool.false_eq_true]
   all_goals first
    | exact h
    | exact zG h (H _) fun a ts r h=>h
    | exact zG h (fun _ h=>h) fun a ts r h=>zG h (H _) fun a ts r h=>h
    | exact zG h (z _ _) fun a ts r h=>zG h (fun _ h=>h) fun a ts r h=>h
    | exact zG h (fun _ h=>h) fun a ts r h=>zG h (y _ _) fun a ts r h=>zG h (fun _ h=>h) fun a ts r h=>h
  ·rw [ZY] at h ⊢
   refine zG h (y _ _) fun a ts r h=>?_
   split at h
   ·rename_i o;rw [if_pos o];exact z _ _ _ h
   ·rename_i o;rw [if_neg o];exact h
  ·rw [zA] at h ⊢
   refine zG h (fun _ h=>h) fun a ts r h=>?_
   split at h
   ·rename_i o;rw [if_pos o];exact h
   ·rename_i o;rw [if_neg o];exact zG h (z _ _) fun a ts r h=>h
def NmT (t:Tk):Prop:=t.k=1→t.s.length≤1099511627776
def zi:List Tk→Prop
 | []=>False
 | [t]=>t.k=0
 | t::ts=>t.k≠0∧NmT t∧zi ts
theorem zi.ne {ts:List Tk} (h:zi ts):ts≠[]:=by cases ts <;> simp [zi] at h ⊢
theorem zi.tail {t:Tk} {ts:List Tk} (h:zi (t::ts)) (hk:t.k≠0):zi ts:=by
 cases ts with
 | nil=>exact absurd h hk
 | cons u us=>exact h.2.2
theorem zi.names {ts:List Tk} (h:zi ts):∀t∈ts,NmT t:=by
 induction ts with
 | nil=>intro t o;cases o
 | cons u us ih =>
  intro t o;cases us with
  | nil =>
   simp only [List.mem_singleton] at o;subst o;intro y;have z:t.k=0:=h;omega
  | cons v vs =>
   rcases List.mem_cons.1 o with rfl | o
   ·exact h.2.1
   ·exact ih h.2.2 t o
theorem zj {t:Tk} {s:List UInt8} (h:zm t s=true):t.k≠0:=by
 unfold zm at h
 intro o
 simp [o] at h
theorem zi.cons {ts:List Tk} (h:zi ts):∃t us,ts=t::us:=by
 cases ts with
 | nil=>exact absurd h (by simp [zi])
 | cons t us=>exact ⟨t,us,rfl⟩
theorem YU {f k least:Nat} {ts:List Tk} {r:PR Ex} (h:zf f least ts=some r):zf (f+k) least ts=some r:=by
 induction k with
 | zero=>exact h
 | succ k ih=>exact (Yi (f+k)).1 _ _ _ ih
theorem vR {f f' least:Nat} {ts:List Tk} {r r':PR Ex} (h:zf f least ts=some r) (h':zf f' least ts=some r'):r=r':=by
 have a:=YU (k:=f') h;have b:=YU (k:=f) h';rw [Nat.add_comm] at b;exact Option.some.inj (a.symm.trans b)
def zK (S:Nat→Prop) (w:World) (l:List Ex) (v:Value):Prop :=
 (l=[]∧v=.slice none 0 0)∨∃(g cap:Nat) (us:List (List Value)),v=.slice (some ⟨g,0,none⟩) l.length cap∧l≠[]∧us.length=l.length∧S g∧g<w.heap.size∧l.length≤cap∧cap≤maxLen ∧
  (∀j u,us.flatten[j]?=some u→w.cell? ⟨g,j,none⟩=some u)∧(∀c∈us,c.length=5)∧∀(j:Nat) (x:Ex) (c:List Value),l[j]?=some x→us[j]?=some c→zZ S w x (.agg c.toArray)
abbrev yW (B:Nat) (w:World) (l:List Ex) (v:Value):Prop:=zK (fun k=>B≤k) w l v
theorem zK.kept {S:Nat→Prop} {w w':World} {l:List Ex} {v:Value} (h:zK S w l v) (hs:w.heap.size≤w'.heap.size) (hb:∀k,S k→k<w.heap.size→w'.heap[k]?=w.heap[k]?):zK S w' l v:=by
 rcases h with h | ⟨g,A,J,O,D,z,G,H,L,I,y,o,N⟩
 ·exact .inl h
 ·refine .inr ⟨g,A,J,O,D,z,G,Nat.lt_of_lt_of_le H hs,L,I,fun j u hj=>?_,o,fun j x c hx hc'=>zZ.kept (N j x c hx hc') hs hb⟩
  rw [World.cell?_of_block (hb g G H)];exact y j u hj
theorem zZ.of_row {S:Nat→Prop} {w:World} {l:List Ex} {v:Value} (h:zK S w l v) (k:Nat) (s:List UInt8) (n:Int) (line:Nat):zZ S w (.mk k s n l line) (.agg #[.int .i64 k,.string (zb s),.int .i64 n,v,.int .i64 line]):=by
 rcases h with ⟨rfl,rfl⟩ | ⟨g,A,J,rfl,D,z,G,H,L,I,y,o,N⟩
 ·exact .leaf k s n line
 ·exact .node k s n l line g A J D z G H L I y o N
theorem zK.wide {S S':Nat→Prop} {w:World} {l:List Ex} {v:Value} (h:zK S w l v) (hS:∀k,S k→S' k):zK S' w l v:=by
 rcases h with h | ⟨g,A,J,O,D,z,G,H,L,I,y,o,N⟩
 ·exact .inl h
 ·exact .inr ⟨g,A,J,O,D,z,hS _ G,H,L,I,y,o,fun j x c hx hc'=>zZ.wide (N j x c hx hc') hS⟩
theorem yW.kept {B:Nat} {w w':World} {l:List Ex} {v:Value} (h:yW B w l v) (hs:w.heap.size≤w'.heap.size) (hb:∀k,B≤k→k<w.heap.size→w'.heap[k]?=w.heap[k]?):yW B w' l v:=zK.kept h hs hb
theorem ZL.of_row {B:Nat} {w:World} {l:List Ex} {v:Value} (h:yW B w l v) (k:Nat) (s:List UInt8) (n:Int) (line:Nat):ZL B w (.mk k s n l line) (.agg #[.int .i64 k,.string (zb s),.int .i64 n,v,.int .i64 line]):=zZ.of_row h k s n line
theorem ZL.mono {B B':Nat} {w:World} {x:Ex} {v:Value} (h:ZL B w x v) (hb:B'≤B):ZL B' w x v:=zZ.wide h fun _ hk=>Nat.le_trans hb hk
theorem yW.mono {B B':Nat} {w:World} {l:List Ex} {v:Value} (h:yW B w l v) (hb:B'≤B):yW B' w l v:=zK.wide h fun _ hk=>Nat.le_trans hb hk
def zJ (r g:Nat) (w:World) (res:PR Ex) (e:Ending) (w':World):Prop :=
 zd r w w'∧match res with
  | .error a=>e=ZI a
  | .ok (x,ts)=>∃v o cap,e=.returned v∧ZL w.heap.size w' x v∧zg r g o cap ts w'
def vS (r g:Nat) (w:World) (res:PR (List Ex)) (e:Ending) (w':World):Prop :=
 zd r w w'∧match res with
  | .error a=>e=ZI a
  | .ok (l,ts)=>∃v o cap,e=.returned v∧yW w.heap.size w' l v∧zg r g o cap ts w'
theorem zd.cell {r:Nat} {w w':World} (h:zd r w w') {p:Addr} {v:Value} (hp:p.block≠r) (hc:w.cell? p=some v):w'.cell? p=some v:=by
 rw [World.cell?_of_block (h.block p.block (World.block_lt_of_cell? w _ hc) hp)];exact hc
abbrev set5 (w:World) (N:Nat) (a b c d e:Value):World:=((((w.setCell ⟨N,0,none⟩ a).setCell ⟨N,1,none⟩ b).setCell ⟨N,2,none⟩ c).setCell ⟨N,3,none⟩ d).setCell ⟨N,4,none⟩ e
theorem zX {w:World} {N:Nat} {x0 x1 x2 x3 x4:Value} {ty:TypeId} (h:w.heap[N]?=some (.cells #[x0,x1,x2,x3,x4] ty (0,0))) (a b c d e:Value) :
  (set5 w N a b c d e).cell? ⟨N,0,none⟩=some a∧(set5 w N a b c d e).cell? ⟨N,1,none⟩=some b∧(set5 w N a b c d e).cell? ⟨N,2,none⟩=some c∧(set5 w N a b c d e).cell? ⟨N,3,none⟩=some d∧(set5 w N a b c d e).cell? ⟨N,4,none⟩=some e:=by
 have y:w.cell? ⟨N,0,none⟩=some x0:=by simp only [World.cell?,h];rfl
 have A:w.cell? ⟨N,1,none⟩=some x1:=by simp only [World.cell?,h];rfl
 have z:w.cell? ⟨N,2,none⟩=some x2:=by simp only [World.cell?,h];rfl
 have D:w.cell? ⟨N,3,none⟩=some x3:=by simp only [World.cell?,h];rfl
 have o:w.cell? ⟨N,4,none⟩=some x4:=by simp only [World.cell?,h];rfl
 refine ⟨?_,?_,?_,?_,?_⟩
 ·rw [World.cell?_setCell_other _ _ _ _ (by simp),World.cell?_setCell_other _ _ _ _ (by simp),World.cell?_setCell_other _ _ _ _ (by simp),World.cell?_setCell_other _ _ _ _ (by simp)]
  exact World.cell?_setCell_same _ _ _ y
 ·rw [World.cell?_setCell_other _ _ _ _ (by simp),World.cell?_setCell_other _ _ _ _ (by simp),World.cell?_setCell_other _ _ _ _ (by simp)]
  exact World.cell?_setCell_same _ _ _ ((World.cell?_setCell_other _ _ _ _ (by simp)).trans A)
 ·rw [World.cell?_setCell_other _ _ _ _ (by simp),World.cell?_setCell_other _ _ _ _ (by simp)]
  exact World.cell?_setCell_same _ _ _ ((World.cell?_setCell_other _ _ _ _ (by simp)).trans ((World.cell?_setCell_other _ _ _ _ (by simp)).trans z))
 ·rw [World.cell?_setCell_other _ _ _ _ (by simp)]
  exact World.cell?_setCell_same _ _ _ ((World.cell?_setCell_other _ _ _ _ (by simp)).trans ((World.cell?_setCell_other _ _ _ _ (by simp)).trans ((World.cell?_setCell_other _ _ _ _ (by simp)).trans D)))
 ·exact World.cell?_setCell_same _ _ _ ((World.cell?_setCell_other _ _ _ _ (by simp)).trans ((World.cell?_setCell_other _ _ _ _ (by simp)).trans ((World.cell?_setCell_other _ _ _ _ (by simp)).trans ((World.cell?_setCell_other _ _ _ _ (by simp)).trans o))))
theorem zu (w:World) (N:Nat) (a b c d e:Value) {k:Nat} (hk:k≠N):(set5 w N a b c d e).heap[k]?=w.heap[k]?:=by
 rw [Below.heap_setCell _ _ _ _ (by simpa using hk),Below.heap_setCell _ _ _ _ (by simpa using hk),Below.heap_setCell _ _ _ _ (by simpa using hk),Below.heap_setCell _ _ _ _ (by simpa using hk),Below.heap_setCell _ _ _ _ (by simpa using hk)]
theorem ZN {r:Nat} {w0 w:World} {N:Nat} (h:zd r w0 w) (hN:w0.heap.size≤N) (a b c d e:Value):zd r w0 (set5 w N a b c d e):=by
 have o:Below 0 w (set5 w N a b c d e):=(((((Below.refl 0 w).setCell (p:=⟨N,0,none⟩) (Nat.zero_le _) a).setCell (p:=⟨N,1,none⟩) (Nat.zero_le _) b).setCell (p:=⟨N,2,none⟩) (Nat.zero_le _) c).setCell (p:=⟨N,3,none⟩) (Nat.zero_le _) d).setCell (p:=⟨N,4,none⟩) (Nat.zero_le _) e;exact ⟨o.os.trans h.os,o.tape.trans h.tape,o.output.trans h.output,Nat.le_trans h.size o.size,fun k hk hr=>(zu w N a b c d e (by omega)).trans (h.block k hk hr)⟩
theorem zaM (r g o cap:Nat) (t u:Tk) (us:List Tk) (w:World) (h:zg r g o cap (t::u::us) w) (hk:t.k=1) (hu:zm u [40]=false) :
  Calls Tryz.prog 194 #[.pointer (some ⟨r,0,none⟩)] w (zJ r g w (.ok (.mk 4 t.s 0 [] t.line,u::us))):=by
 have hf:=Xv;have hr:=h.lt.1;have ad:=h.lt.2;have h0:=h.alloc (.cells #[.int .i64 0,.string ⟨#[]⟩,.int .i64 0,.slice none 0 0,.int .i64 0] 45);have ch:=yh r g o cap t (u::us) _ h0;obtain ⟨w2,G⟩:∃w2,w2=((w.alloc (.cells #[.int .i64 0,.string ⟨#[]⟩,.int .i64 0,.slice none 0 0,.int .i64 0] 45)).alloc (ZK t)).alloc (.cells #[.int .i64 4,.string ⟨#[]⟩,.int .i64 0,.slice none 0 0,.int .i64 t.line] 45):=⟨_,rfl⟩;have h2:zg r g o cap (t::u::us) w2:=by rw [G];exact (h0.alloc _).alloc _
 have U:Hid (zd r w w2):=by rw [G];exact (((zd.refl r w).alloc _).alloc _).alloc _
 have cn:=xu r g o cap t (u::us) w2 h2 (fun _=>by simp)
 simp only [hk,if_true] at cn;clear h h0 h2
 go_enter Tryz.func194,Tryz.ntmps194
 go_wp2_with fail
 refine ch.mono ?_;clear ch;rintro e w1 ⟨rfl,rfl⟩;simp only [uA];go_wp2_with fail
 rw [←G];refine cn.mono ?_;clear cn;rintro e I ⟨L,rfl,h3⟩
 have n2:w2.heap[w.heap.size+1+1]?=some (.cells #[.int .i64 4,.string ⟨#[]⟩,.int .i64 0,.slice none 0 0,.int .i64 t.line] 45 (0,0)):=by
  have hx:=World.alloc_heap_new ((w.alloc (.cells #[.int .i64 0,.string ⟨#[]⟩,.int .i64 0,.slice none 0 0,.int .i64 0] 45)).alloc (ZK t)) (.cells #[.int .i64 4,.string ⟨#[]⟩,.int .i64 0,.slice none 0 0,.int .i64 t.line] 45);rw [←G,show ((w.alloc (.cells #[.int .i64 0,.string ⟨#[]⟩,.int .i64 0,.slice none 0 0,.int .i64 0] 45)).alloc (ZK t)).heap.size=w.heap.size+1+1 by simp] at hx
  exact hx
 have n0:w2.heap[w.heap.size]?=some (.cells #[.int .i64 0,.string ⟨#[]⟩,.int .i64 0,.slice none 0 0,.int .i64 0] 45 (0,0)):=by
  rw [G,Below.heap_alloc _ _ _ (by simp;omega),Below.heap_alloc _ _ _ (by simp)]
  exact World.alloc_heap_new _ _
 have D:=(L.block _ (Array.getElem?_eq_some_iff.1 n2).1 (by omega)).trans n2
 have W:=(L.block _ (Array.getElem?_eq_some_iff.1 n0).1 (by omega)).trans n0
 have H:Hid (zd r w I):=U.out.trans L;clear n2 n0 L G U;have c0:I.cell? ⟨w.heap.size+1+1,0,none⟩=some (.int .i64 4):=by simp only [World.cell?,D];rfl
 have c1:I.cell? ⟨w.heap.size+1+1,1,none⟩=some (.string ⟨#[]⟩):=by simp only [World.cell?,D];rfl
 have c2:I.cell? ⟨w.heap.size+1+1,2,none⟩=some (.int .i64 0):=by simp only [World.cell?,D];rfl
 have c3:I.cell? ⟨w.heap.size+1+1,3,none⟩=some (.slice none 0 0):=by simp only [World.cell?,D];rfl
 have c4:I.cell? ⟨w.heap.size+1+1,4,none⟩=some (.int .i64 t.line):=by simp only [World.cell?,D];rfl
 have cf:I.frozen? ⟨w.heap.size+1+1,1,none⟩=false:=by simp only [World.frozen?,D];rfl
 obtain ⟨w4,y⟩:∃w4,w4=I.setCell ⟨w.heap.size+1+1,1,none⟩ (.string (zb t.s)):=⟨_,rfl⟩;have d0:w4.cell? ⟨w.heap.size+1+1,0,none⟩=some (.int .i64 4):=by rw [y,World.cell?_setCell_other _ _ _ _ (by simp)];exact c0
 have d1:w4.cell? ⟨w.heap.size+1+1,1,none⟩=some (.string (zb t.s)):=by rw [y];exact World.cell?_setCell_same _ _ _ c1
 have d2:w4.cell? ⟨w.heap.size+1+1,2,none⟩=some (.int .i64 0):=by rw [y,World.cell?_setCell_other _ _ _ _ (by simp)];exact c2
 have d3:w4.cell? ⟨w.heap.size+1+1,3,none⟩=some (.slice none 0 0):=by rw [y,World.cell?_setCell_other _ _ _ _ (by simp)];exact c3
 have d4:w4.cell? ⟨w.heap.size+1+1,4,none⟩=some (.int .i64 t.line):=by rw [y,World.cell?_setCell_other _ _ _ _ (by simp)];exact c4
 have z:∀k,k≠w.heap.size+1+1→w4.heap[k]?=I.heap[k]?:=fun k hk=>by rw [y];exact Below.heap_setCell _ _ _ _ (by simpa using hk)
 have Z:zg r g (o+5) (cap-1) (u::us) w4:=h3.keep (z r (by omega)) (z g (by omega))
 have V:Hid (zd r w w4):=⟨by rw [y];exact H.out.os,by rw [y];exact H.out.tape,by rw [y];exact H.out.output,by rw [y];simpa using H.out.size,fun k hk hr=>(z k (by omega)).trans (H.out.block k hk hr)⟩
 have N:=(z w.heap.size (by omega)).trans W
 have Y:=zgm r g (o+5) (cap-1) u us [40] w4 Z;rw [hu] at Y;have R:Hid (I.setCell ⟨w.heap.size+1+1,1,none⟩ (.string (zb t.s))=w4):=y.symm;obtain ⟨J,A⟩:∃J,J=(w4.alloc (ZK u)).alloc (ZK u):=⟨_,rfl⟩;rw [←A] at Y;have ab:Hid (zg r g (o+5) (cap-1) (u::us) J):=by rw [A];exact (Z.alloc _).alloc _
 have aa:Hid (zd r w J):=by rw [A];exact (V.out.alloc _).alloc _
 have e0:J.cell? ⟨w.heap.size+1+1,0,none⟩=some (.int .i64 4):=by rw [A];exact zl (zl d0 _) _
 have e1:J.cell? ⟨w.heap.size+1+1,1,none⟩=some (.string (zb t.s)):=by rw [A];exact zl (zl d1 _) _
 have e2:J.cell? ⟨w.heap.size+1+1,2,none⟩=some (.int .i64 0):=by rw [A];exact zl (zl d2 _) _
 have e3:J.cell? ⟨w.heap.size+1+1,3,none⟩=some (.slice none 0 0):=by rw [A];exact zl (zl d3 _) _
 have e4:J.cell? ⟨w.heap.size+1+1,4,none⟩=some (.int .i64 t.line):=by rw [A];exact zl (zl d4 _) _
 have T:w.heap.size<w4.heap.size:=(Array.getElem?_eq_some_iff.1 N).1
 have O:J.heap[w.heap.size]?=some (.cells #[.int .i64 0,.string ⟨#[]⟩,.int .i64 0,.slice none 0 0,.int .i64 0] 45 (0,0)):=by
  rw [A,Below.heap_alloc _ _ _ (by simp;omega),Below.heap_alloc _ _ _ T];exact N
 clear y z h3 Z D W N H V d0 d1 d2 d3 d4 A T;go_wp2_with fail
 rw [R.out];refine Y.mono ?_;clear Y c0 c1 c2 c3 c4 cf;rintro e Q ⟨rfl,rfl⟩;have q0:Q.cell? ⟨w.heap.size,0,none⟩=some (.int .i64 0):=by simp only [World.cell?,O];rfl
 have q1:Q.cell? ⟨w.heap.size,1,none⟩=some (.string ⟨#[]⟩):=by simp only [World.cell?,O];rfl
 have q2:Q.cell? ⟨w.heap.size,2,none⟩=some (.int .i64 0):=by simp only [World.cell?,O];rfl
 have q3:Q.cell? ⟨w.heap.size,3,none⟩=some (.slice none 0 0):=by simp only [World.cell?,O];rfl
 have q4:Q.cell? ⟨w.heap.size,4,none⟩=some (.int .i64 0):=by simp only [World.cell?,O];rfl
 have qf:∀j,Q.frozen? ⟨w.heap.size,j,none⟩=false:=fun j=>by simp only [World.frozen?,O];simp
 go_wp2
 obtain ⟨z0,z1,z2,z3,z4⟩:=zX O (.int .i64 4) (.string (zb t.s)) (.int .i64 0) (.slice none 0 0) (.int .i64 t.line);refine bodyPost_ret (v:=.agg #[.int .i64 4,.string (zb t.s),.int .i64 0,.slice none 0 0,.int .i64 t.line]) (by simp [results,Tryz.results194,go_sem,z0,z1,z2,z3,z4]) rfl ⟨ZN aa.out (Nat.le_refl _) _ _ _ _ _,_,o+5,cap-1,rfl,.leaf 4 t.s 0 t.line,?_⟩
 exact ab.out.keep (zu _ _ _ _ _ _ _ (by omega)) (zu _ _ _ _ _ _ _ (by omega))
def zcW (t:Tk):PR (List Ex)→PR Ex
 | .error a=>.error a
 | .ok (l,ts)=>.ok (.mk 5 t.s 0 l t.line,ts)
theorem zd.setOther {r:Nat} {w w':World} (h:zd r w w') {p:Addr} (hp:w.heap.size≤p.block) (v:Value):zd r w (w'.setCell p v):=by
 have o:Below 0 w' (w'.setCell p v):=(Below.refl 0 w').setCell (p:=p) (Nat.zero_le _) v;exact ⟨o.os.trans h.os,o.tape.trans h.tape,o.output.trans h.output,Nat.le_trans h.size o.size,fun k hk hr=>(Below.heap_setCell _ _ _ _ (by omega)).trans (h.block k hk hr)⟩
theorem uR {w w':World} {p:Addr} (h:w'.heap[p.block]?=w.heap[p.block]?):w'.frozen? p=w.frozen? p:=by
 simp only [World.frozen?,h]
theorem zbV (r g o cap:Nat) (t u:Tk) (us:List Tk) (w:World) (res:PR (List Ex)) (h:zg r g o cap (t::u::us) w) (hk:t.k=1) (hu:zm u [40]=true)
  (hbr:∀w1 o1 cap1,zg r g o1 cap1 (u::us) w1→zd r w w1→Calls Tryz.prog 195 #[.pointer (some ⟨r,0,none⟩),.func (.func 44) #[.pointer (some ⟨r,0,none⟩)] #[]] w1 (vS r g w1 res)) :
  Calls Tryz.prog 194 #[.pointer (some ⟨r,0,none⟩)] w (zJ r g w (zcW t res)):=by
 have ay:∀(fn:Fn) (first cap:Array Value) (w:World),(Instr.makeFunc fn first cap).run Tryz.prog w=.ok (.func fn first cap) w:=fun _ _ _ _=>rfl
 generalize hres:zcW t res=res';have hf:=Xv;have hr:=h.lt.1;have az:=h.lt.2;have h0:=h.alloc (.cells #[.int .i64 0,.string ⟨#[]⟩,.int .i64 0,.slice none 0 0,.int .i64 0] 45);have ch:=yh r g o cap t (u::us) _ h0;obtain ⟨w2,N⟩:∃w2,w2=((w.alloc (.cells #[.int .i64 0,.string ⟨#[]⟩,.int .i64 0,.slice none 0 0,.int .i64 0] 45)).alloc (ZK t)).alloc (.cells #[.int .i64 4,.string ⟨#[]⟩,.int .i64 0,.slice none 0 0,.int .i64 t.line] 45):=⟨_,rfl⟩;have h2:zg r g o cap (t::u::us) w2:=by rw [N];exact (h0.alloc _).alloc _
 have ai:Hid (zd r w w2):=by rw [N];exact (((zd.refl r w).alloc _).alloc _).alloc _
 have cn:=xu r g o cap t (u::us) w2 h2 (fun _=>by simp)
 simp only [hk,if_true] at cn;clear h h0 h2
 go_enter Tryz.func194,Tryz.ntmps194
 go_wp2_with fail
 refine ch.mono ?_;clear ch;rintro e w1 ⟨rfl,rfl⟩;simp only [uA];go_wp2_with fail
 rw [←N];refine cn.mono ?_;clear cn;rintro e W ⟨Y,rfl,h3⟩
 have n2:w2.heap[w.heap.size+1+1]?=some (.cells #[.int .i64 4,.string ⟨#[]⟩,.int .i64 0,.slice none 0 0,.int .i64 t.line] 45 (0,0)):=by
  have hx:=World.alloc_heap_new ((w.alloc (.cells #[.int .i64 0,.string ⟨#[]⟩,.int .i64 0,.slice none 0 0,.int .i64 0] 45)).alloc (ZK t)) (.cells #[.int .i64 4,.string ⟨#[]⟩,.int .i64 0,.slice none 0 0,.int .i64 t.line] 45);rw [←N,show ((w.alloc (.cells #[.int .i64 0,.string ⟨#[]⟩,.int .i64 0,.slice none 0 0,.int .i64 0] 45)).alloc (ZK t)).heap.size=w.heap.size+1+1 by simp] at hx
  exact hx
 have n0:w2.heap[w.heap.size]?=some (.cells #[.int .i64 0,.string ⟨#[]⟩,.int .i64 0,.slice none 0 0,.int .i64 0] 45 (0,0)):=by
  rw [N,Below.heap_alloc _ _ _ (by simp;omega),Below.heap_alloc _ _ _ (by simp)]
  exact World.alloc_heap_new _ _
 have J:=(Y.block _ (Array.getElem?_eq_some_iff.1 n2).1 (by omega)).trans n2
 have ae:=(Y.block _ (Array.getElem?_eq_some_iff.1 n0).1 (by omega)).trans n0
 have Q:Hid (zd r w W):=ai.out.trans Y;clear n2 n0 Y N ai;have c0:W.cell? ⟨w.heap.size+1+1,0,none⟩=some (.int .i64 4):=by simp only [World.cell?,J];rfl
 have c1:W.cell? ⟨w.heap.size+1+1,1,none⟩=some (.string ⟨#[]⟩):=by simp only [World.cell?,J];rfl
 have c2:W.cell? ⟨w.heap.size+1+1,2,none⟩=some (.int .i64 0):=by simp only [World.cell?,J];rfl
 have c3:W.cell? ⟨w.heap.size+1+1,3,none⟩=some (.slice none 0 0):=by simp only [World.cell?,J];rfl
 have c4:W.cell? ⟨w.heap.size+1+1,4,none⟩=some (.int .i64 t.line):=by simp only [World.cell?,J];rfl
 have cf:W.frozen? ⟨w.heap.size+1+1,1,none⟩=false:=by simp only [World.frozen?,J];rfl
 obtain ⟨w4,z⟩:∃w4,w4=W.setCell ⟨w.heap.size+1+1,1,none⟩ (.string (zb t.s)):=⟨_,rfl⟩;have d0:w4.cell? ⟨w.heap.size+1+1,0,none⟩=some (.int .i64 4):=by rw [z,World.cell?_setCell_other _ _ _ _ (by simp)];exact c0
 have d1:w4.cell? ⟨w.heap.size+1+1,1,none⟩=some (.string (zb t.s)):=by rw [z];exact World.cell?_setCell_same _ _ _ c1
 have d2:w4.cell? ⟨w.heap.size+1+1,2,none⟩=some (.int .i64 0):=by rw [z,World.cell?_setCell_other _ _ _ _ (by simp)];exact c2
 have d3:w4.cell? ⟨w.heap.size+1+1,3,none⟩=some (.slice none 0 0):=by rw [z,World.cell?_setCell_other _ _ _ _ (by simp)];exact c3
 have d4:w4.cell? ⟨w.heap.size+1+1,4,none⟩=some (.int .i64 t.line):=by rw [z,World.cell?_setCell_other _ _ _ _ (by simp)];exact c4
 have y:∀k,k≠w.heap.size+1+1→w4.heap[k]?=W.heap[k]?:=fun k hk=>by rw [z];exact Below.heap_setCell _ _ _ _ (by simpa using hk)
 have h4:zg r g (o+5) (cap-1) (u::us) w4:=h3.keep (y r (by omega)) (y g (by omega))
 have ad:Hid (zd r w w4):=⟨by rw [z];exact Q.out.os,by rw [z];exact Q.out.tape,by rw [z];exact Q.out.output,by rw [z];simpa using Q.out.size,fun k hk hr=>(y k (by omega)).trans (Q.out.block k hk hr)⟩
 have aa:=(y w.heap.size (by omega)).trans ae
 have ci:=zgm r g (o+5) (cap-1) u us [40] w4 h4;rw [hu] at ci;have af:Hid (W.setCell ⟨w.heap.size+1+1,1,none⟩ (.string (zb t.s))=w4):=z.symm;obtain ⟨R,A⟩:∃R,R=(w4.alloc (ZK u)).alloc (ZK u):=⟨_,rfl⟩;rw [←A] at ci;have ap:Hid (zg r g (o+5) (cap-1) (u::us) R):=by rw [A];exact (h4.alloc _).alloc _
 have ao:Hid (zd r w R):=by rw [A];exact (ad.out.alloc _).alloc _
 have e0:R.cell? ⟨w.heap.size+1+1,0,none⟩=some (.int .i64 4):=by rw [A];exact zl (zl d0 _) _
 have e1:R.cell? ⟨w.heap.size+1+1,1,none⟩=some (.string (zb t.s)):=by rw [A];exact zl (zl d1 _) _
 have e2:R.cell? ⟨w.heap.size+1+1,2,none⟩=some (.int .i64 0):=by rw [A];exact zl (zl d2 _) _
 have e3:R.cell? ⟨w.heap.size+1+1,3,none⟩=some (.slice none 0 0):=by rw [A];exact zl (zl d3 _) _
 have e4:R.cell? ⟨w.heap.size+1+1,4,none⟩=some (.int .i64 t.line):=by rw [A];exact zl (zl d4 _) _
 have ag:w.heap.size<w4.heap.size:=(Array.getElem?_eq_some_iff.1 aa).1
 have p0:R.heap[w.heap.size]?=some (.cells #[.int .i64 0,.string ⟨#[]⟩,.int .i64 0,.slice none 0 0,.int .i64 0] 45 (0,0)):=by
  rw [A,Below.heap_alloc _ _ _ (by simp;omega),Below.heap_alloc _ _ _ ag];exact aa
 have aq:R.frozen? ⟨w.heap.size+1+1,0,none⟩=false:=by
  have U:w4.frozen? ⟨w.heap.size+1+1,0,none⟩=false:=by rw [z,World.frozen?_setCell];simp only [World.frozen?,J];rfl
  have T:=World.block_lt_of_cell? w4 _ d0;rw [A];simp only [World.frozen?] at U ⊢;rw [Below.heap_alloc _ _ _ (by simp;simp at T;omega),Below.heap_alloc _ _ _ T];exact U
 have ah:R.frozen? ⟨w.heap.size+1+1,3,none⟩=false:=by
  have U:w4.frozen? ⟨w.heap.size+1+1,3,none⟩=false:=by rw [z,World.frozen?_setCell];simp only [World.frozen?,J];rfl
  have T:=World.block_lt_of_cell? w4 _ d0;rw [A];simp only [World.frozen?] at U ⊢;rw [Below.heap_alloc _ _ _ (by simp;simp at T;omega),Below.heap_alloc _ _ _ T];exact U
 clear z y h3 h4 J ae aa Q ad d0 d1 d2 d3 d4 A ag;go_wp2_with fail
 rw [af.out];refine ci.mono ?_;clear ci c0 c1 c2 c3 c4 cf;rintro e w6 ⟨rfl,rfl⟩;obtain ⟨w7,G⟩:∃w7,w7=w6.setCell ⟨w.heap.size+1+1,0,none⟩ (.int .i64 5):=⟨_,rfl⟩;have am:Hid (w6.setCell ⟨w.heap.size+1+1,0,none⟩ (.int .i64 5)=w7):=G.symm;have y:∀k,k≠w.heap.size+1+1→w7.heap[k]?=w6.heap[k]?:=fun k hk=>by rw [G];exact Below.heap_setCell _ _ _ _ (by simpa using hk)
 have h7:zg r g (o+5) (cap-1) (u::us) w7:=ap.out.keep (y r (by omega)) (y g (by omega))
 have k7:zd r w w7:=by rw [G];exact ao.out.setOther (by simp;omega) _
 have ak:Hid (zd r w w7):=k7;have cb:=hbr w7 _ _ h7 k7;have f0:w7.cell? ⟨w.heap.size+1+1,0,none⟩=some (.int .i64 5):=by rw [G];exact World.cell?_setCell_same _ _ _ e0
 have f1:w7.cell? ⟨w.heap.size+1+1,1,none⟩=some (.string (zb t.s)):=by rw [G,World.cell?_setCell_other _ _ _ _ (by simp)];exact e1
 have f2:w7.cell? ⟨w.heap.size+1+1,2,none⟩=some (.int .i64 0):=by rw [G,World.cell?_setCell_other _ _ _ _ (by simp)];exact e2
 have f3:w7.cell? ⟨w.heap.size+1+1,3,none⟩=some (.slice none 0 0):=by rw [G,World.cell?_setCell_other _ _ _ _ (by simp)];exact e3
 have f4:w7.cell? ⟨w.heap.size+1+1,4,none⟩=some (.int .i64 t.line):=by rw [G,World.cell?_setCell_other _ _ _ _ (by simp)];exact e4
 have ff:w7.frozen? ⟨w.heap.size+1+1,3,none⟩=false:=by rw [G,World.frozen?_setCell];exact ah
 have p7:=(y w.heap.size (by omega)).trans p0
 clear hbr h7 k7 G y p0;go_wp2_with fail
 rw [am.out];refine cb.mono ?_;clear cb e0 e1 e2 e3 e4 aq ah;rintro e w8 ⟨H,V⟩;subst hres;rcases res with a | ⟨l,ts⟩
 ·obtain rfl:=V
  exact ⟨rfl,ak.out.trans H,rfl⟩
 ·obtain ⟨v,o8,Z,rfl,L,al⟩:=V
  have O:r≠w.heap.size+1+1:=by omega
  have g0:=H.cell (p:=⟨w.heap.size+1+1,0,none⟩) (fun h=>O h.symm) f0
  have g1:=H.cell (p:=⟨w.heap.size+1+1,1,none⟩) (fun h=>O h.symm) f1
  have g2:=H.cell (p:=⟨w.heap.size+1+1,2,none⟩) (fun h=>O h.symm) f2
  have g3:=H.cell (p:=⟨w.heap.size+1+1,3,none⟩) (fun h=>O h.symm) f3
  have g4:=H.cell (p:=⟨w.heap.size+1+1,4,none⟩) (fun h=>O h.symm) f4
  have gf:w8.frozen? ⟨w.heap.size+1+1,3,none⟩=false:=(uR (p:=⟨w.heap.size+1+1,3,none⟩) (H.block _ (World.block_lt_of_cell? w7 _ f3) (fun h=>O h.symm))).trans ff
  have p8:=(H.block w.heap.size (Array.getElem?_eq_some_iff.1 p7).1 (by omega)).trans p7
  have au:Hid (zd r w w8):=ak.out.trans H;have aA:w.heap.size+1+1<w7.heap.size:=World.block_lt_of_cell? w7 _ f0;obtain ⟨I,D⟩:∃I,I=w8.setCell ⟨w.heap.size+1+1,3,none⟩ v:=⟨_,rfl⟩;have ax:Hid (I=w8.setCell ⟨w.heap.size+1+1,3,none⟩ v):=D;have y:∀k,k≠w.heap.size+1+1→I.heap[k]?=w8.heap[k]?:=fun k hk=>by rw [D];exact Below.heap_setCell _ _ _ _ (by simpa using hk)
  have ab:w8.heap.size≤I.heap.size:=by rw [D];simp
  have aj:Hid (yW w7.heap.size I l v):=L.kept ab fun k hB _=>y k (by omega)
  have av:Hid (zg r g o8 Z ts I):=al.keep (y r (by omega)) (y g (by omega))
  have an:Hid (zd r w I):=by rw [D];exact au.out.setOther (by simp;omega) _
  have p9:=(y w.heap.size (by omega)).trans p8
  have i0:I.cell? ⟨w.heap.size+1+1,0,none⟩=some (.int .i64 5):=by rw [D,World.cell?_setCell_other _ _ _ _ (by simp)];exact g0
  have i1:I.cell? ⟨w.heap.size+1+1,1,none⟩=some (.string (zb t.s)):=by rw [D,World.cell?_setCell_other _ _ _ _ (by simp)];exact g1
  have i2:I.cell? ⟨w.heap.size+1+1,2,none⟩=some (.int .i64 0):=by rw [D,World.cell?_setCell_other _ _ _ _ (by simp)];exact g2
  have i3:I.cell? ⟨w.heap.size+1+1,3,none⟩=some v:=by rw [D];exact World.cell?_setCell_same _ _ _ g3
  have i4:I.cell? ⟨w.heap.size+1+1,4,none⟩=some (.int .i64 t.line):=by rw [D,World.cell?_setCell_other _ _ _ _ (by simp)];exact g4
  have q0:I.cell? ⟨w.heap.size,0,none⟩=some (.int .i64 0):=by simp only [World.cell?,p9];rfl
  have q1:I.cell? ⟨w.heap.size,1,none⟩=some (.string ⟨#[]⟩):=by simp only [World.cell?,p9];rfl
  have q2:I.cell? ⟨w.heap.size,2,none⟩=some (.int .i64 0):=by simp only [World.cell?,p9];rfl
  have q3:I.cell? ⟨w.heap.size,3,none⟩=some (.slice none 0 0):=by simp only [World.cell?,p9];rfl
  have q4:I.cell? ⟨w.heap.size,4,none⟩=some (.int .i64 0):=by simp only [World.cell?,p9];rfl
  have qf:∀j,I.frozen? ⟨w.heap.size,j,none⟩=false:=fun j=>by simp only [World.frozen?,p9];simp
  have ar:∃a n c,v=.slice a n c:=by
   rcases L with ⟨-,rfl⟩ | ⟨_,_,_,rfl,_⟩
   ·exact ⟨_,_,_,rfl⟩
   ·exact ⟨_,_,_,rfl⟩
  obtain ⟨va,vn,vc,rfl⟩:=ar;clear y L al f0 f1 f2 f3 f4 ff H p8 g0 g1 g2 g4;have aw:=D.symm;clear D;go_wp2
  obtain ⟨z0,z1,z2,z3,z4⟩:=zX p9 (.int .i64 5) (.string (zb t.s)) (.int .i64 0) (.slice va vn vc) (.int .i64 t.line);refine bodyPost_ret (v:=.agg #[.int .i64 5,.string (zb t.s),.int .i64 0,.slice va vn vc,.int .i64 t.line]) (by simp [results,Tryz.results194,go_sem,z0,z1,z2,z3,z4]) rfl ⟨ZN an.out (Nat.le_refl _) _ _ _ _ _,_,o8,Z,rfl,?_,?_⟩
  ·have L:yW w7.heap.size (set5 I w.heap.size (.int .i64 5) (.string (zb t.s)) (.int .i64 0) (.slice va vn vc) (.int .i64 t.line)) l (.slice va vn vc) :=
    aj.out.kept (by simp) fun k hB _=>zu _ _ _ _ _ _ _ (by omega)
   exact ZL.of_row (L.mono (by omega)) 5 t.s 0 t.line
  ·exact av.out.keep (zu _ _ _ _ _ _ _ (by omega)) (zu _ _ _ _ _ _ _ (by omega))
theorem zZ.agg {S:Nat→Prop} {w:World} {x:Ex} {v:Value} (h:zZ S w x v):∃(a:Int) (b:ByteArray) (c:Int) (d0:Option Addr) (d1 d2:Nat) (e:Int),v=.agg #[.int .i64 a,.string b,.int .i64 c,.slice d0 d1 d2,.int .i64 e]:=by
 cases h with
 | leaf=>exact ⟨_,_,_,_,_,_,_,rfl⟩
 | node=>exact ⟨_,_,_,_,_,_,_,rfl⟩
abbrev Zz:Obj:=.cells #[.int .i64 0,.string ⟨#[]⟩,.int .i64 0,.slice none 0 0,.int .i64 0] 45
theorem zhK (r g:Nat) (w:World) (res:PR Ex) (hr:r<w.heap.size) (hgw:g<w.heap.size)
  (hb:Calls Tryz.prog 86 #[.pointer (some ⟨r,0,none⟩),.int .i64 1] (w.alloc Zz) (zJ r g (w.alloc Zz) res)) :
  Calls Tryz.prog 44 #[.pointer (some ⟨r,0,none⟩)] w (zJ r g w res):=by
 go_enter Tryz.func44,Tryz.ntmps44
 go_wp2_with fail
 refine hb.mono ?_;clear hb;rintro e w1 ⟨z,h⟩;have L:zd r w w1:=((zd.refl r w).alloc _).trans z;rcases res with a | ⟨x,ts⟩
 ·obtain rfl:=h
  exact ⟨rfl,L,rfl⟩
 ·obtain ⟨v,o,A,rfl,J,D⟩:=h
  obtain ⟨a,b,c,I,H,G,e,rfl⟩:=J.agg;have R:(w.alloc Zz).heap.size=w.heap.size+1:=by simp
  have y:w1.heap[w.heap.size]?=some Zz:=(z.block w.heap.size (by omega) (by omega)).trans (World.alloc_heap_new w _)
  have q0:w1.cell? ⟨w.heap.size,0,none⟩=some (.int .i64 0):=by simp only [World.cell?,y];rfl
  have Z:w1.cell? ⟨w.heap.size,1,none⟩=some (.string ⟨#[]⟩):=by simp only [World.cell?,y];rfl
  have q2:w1.cell? ⟨w.heap.size,2,none⟩=some (.int .i64 0):=by simp only [World.cell?,y];rfl
  have q3:w1.cell? ⟨w.heap.size,3,none⟩=some (.slice none 0 0):=by simp only [World.cell?,y];rfl
  have q4:w1.cell? ⟨w.heap.size,4,none⟩=some (.int .i64 0):=by simp only [World.cell?,y];rfl
  have qf:∀j,w1.frozen? ⟨w.heap.size,j,none⟩=false:=fun j=>by simp only [World.frozen?,y];simp
  have Y:Hid (ZL (w.alloc Zz).heap.size w1 x (.agg #[.int .i64 a,.string b,.int .i64 c,.slice I H G,.int .i64 e])):=J;have O:Hid (zg r g o A ts w1):=D;have T:Hid (zd r w w1):=L;clear z J D L;go_wp2
  obtain ⟨N,V,U,W,Q⟩:=zX y (.int .i64 a) (.string b) (.int .i64 c) (.slice I H G) (.int .i64 e);refine bodyPost_ret (v:=.agg #[.int .i64 a,.string b,.int .i64 c,.slice I H G,.int .i64 e]) (by simp [results,Tryz.results44,go_sem,N,V,U,W,Q]) rfl ⟨ZN T.out (Nat.le_refl _) _ _ _ _ _,_,o,A,rfl,?_,?_⟩
  ·exact (Y.out.kept (w':=set5 w1 w.heap.size (.int .i64 a) (.string b) (.int .i64 c) (.slice I H G) (.int .i64 e)) (by simp) fun k hB _=>zu _ _ _ _ _ _ _ (by omega)).mono (by omega)
  ·exact O.out.keep (zu _ _ _ _ _ _ _ (by omega)) (zu _ _ _ _ _ _ _ (by omega))
theorem za {α β:Type} {x:Option (PR α)} {k:α→List Tk→Option (PR β)} {p:β × List Tk} (h:zh x k=some (.ok p)):∃y us,x=some (.ok (y,us))∧k y us=some (.ok p):=by
 unfold zh at h
 cases x with
 | none=>cases h
 | some x =>
  cases x with
  | error a=>cases h
  | ok q=>exact ⟨q.1,q.2,rfl,h⟩
theorem Z5 {ts:List Tk} (h:zi ts) (hk:(zv ts).k≠0):zi ts.tail:=by
 obtain ⟨t,o,rfl⟩:=h.cons;exact h.tail hk
theorem zD {ts:List Tk} {s:List UInt8} (h:zi ts) (hk:zm (zv ts) s=true):zi ts.tail:=Z5 h (zj hk)
theorem zY {s:List UInt8} {ts us:List Tk} {y:Unit} (h:zR s ts=some (.ok (y,us))) (hE:zi ts):zi us:=by
 unfold zR at h
 split at h
 ·rename_i o
  simp only [Option.some.injEq,Except.ok.injEq,Prod.mk.injEq] at h;rw [←h.2];exact zD hE o
 ·cases h
theorem ZM {s:List UInt8} {ts us:List Tk} (h:Z3 ts=some (.ok (s,us))) (hE:zi ts):zi us:=by
 unfold Z3 at h
 split at h
 ·rename_i o
  simp only [Option.some.injEq,Except.ok.injEq,Prod.mk.injEq] at h;rw [←h.2];exact Z5 hE (by omega)
 ·cases h
theorem Za {α:Type} {x y:α} {ts us:List Tk} (h:(some (.ok (x,ts)):Option (PR α))=some (.ok (y,us))) (hE:zi ts):zi us:=by
 simp only [Option.some.injEq,Except.ok.injEq,Prod.mk.injEq] at h;rw [←h.2];exact hE
theorem Zi (f:Nat) :
  (∀least ts x us,zf f least ts=some (.ok (x,us))→zi ts→zi us)∧(∀least e ts x us,Zp f least e ts=some (.ok (x,us))→zi ts→zi us) ∧
  (∀ts x us,Zg f ts=some (.ok (x,us))→zi ts→zi us)∧(∀e ts x us,zw f e ts=some (.ok (x,us))→zi ts→zi us)∧(∀ts x us,zC f ts=some (.ok (x,us))→zi ts→zi us) ∧
  (∀pre ts x us,ZY f pre ts=some (.ok (x,us))→zi ts→zi us)∧(∀ts x us,zA f ts=some (.ok (x,us))→zi ts→zi us):=by
 induction f with
 | zero=>refine ⟨?_,?_,?_,?_,?_,?_,?_⟩ <;> intros <;> simp_all [zf,Zp,Zg,zw,zC,ZY,zA]
 | succ f ih =>
  obtain ⟨L,Y,V,T,i5,O,Z⟩:=ih;refine ⟨fun least ts x us h hE=>?_,fun least e ts x us h hE=>?_,fun ts x us h hE=>?_,fun e ts x us h hE=>?_,fun ts x us h hE=>?_,fun pre ts x us h hE=>?_,fun ts x us h hE=>?_⟩
  ·rw [zf] at h
   split at h
   ·exact V _ _ _ h hE
   ·obtain ⟨y,G,A,o⟩:=za h
    exact Y _ _ _ _ _ o (L _ _ _ _ A hE)
  ·rw [Zp] at h
   split at h
   ·rename_i D
    obtain ⟨y,G,A,o⟩:=za h;exact Y _ _ _ _ _ o (L _ _ _ _ A (Z5 hE (by omega)))
   ·exact Za h hE
  ·rw [Zg] at h
   split at h
   ·rename_i D
    obtain ⟨y,G,A,o⟩:=za h;exact Za o (V _ _ _ A (Z5 hE (by omega)))
   ·obtain ⟨y,G,A,o⟩:=za h
    exact T _ _ _ _ o (i5 _ _ _ A hE)
  ·rw [zw] at h
   split at h
   ·rename_i D
    obtain ⟨y,G,A,o⟩:=za h;obtain ⟨z,N,I,H⟩:=za o;exact T _ _ _ _ H (zY I (L _ _ _ _ A (zD hE D)))
   ·split at h
    ·rename_i D
     obtain ⟨y,G,A,o⟩:=za h;exact T _ _ _ _ o (ZM A (zD hE D))
    ·exact Za h hE
  ·rw [zC] at h
   split at h
   ·rename_i D;exact Za h (Z5 hE (by omega))
   split at h
   ·rename_i D;exact Za h (Z5 hE (by omega))
   split at h
   ·rename_i D
    have W:=Z5 hE (by omega)
    split at h
    ·obtain ⟨y,G,A,o⟩:=za h
     exact Za o (Z _ _ _ A W)
    ·exact Za h W
   split at h
   ·rename_i D;exact Za h (zD hE D)
   split at h
   ·rename_i D;exact Za h (zD hE D)
   split at h
   ·rename_i D
    obtain ⟨y,G,A,o⟩:=za h;obtain ⟨z,N,I,H⟩:=za o;exact Za H (Z _ _ _ I (ZM A (zD hE D)))
   split at h
   ·rename_i D
    obtain ⟨y,G,A,o⟩:=za h;obtain ⟨z,N,I,H⟩:=za o;exact Za H (zY I (O _ _ _ _ A (zD hE D)))
   ·obtain ⟨y,G,A,o⟩:=za h
    obtain ⟨z,N,I,H⟩:=za o;obtain ⟨z',R,U,Q⟩:=za H;exact Za Q (zY U (L _ _ _ _ I (zY A hE)))
  ·rw [ZY] at h
   obtain ⟨y,G,A,o⟩:=za h;have J:=L _ _ _ _ A hE
   split at o
   ·rename_i D;exact O _ _ _ _ o (zD J D)
   ·exact Za o J
  ·rw [zA] at h
   obtain ⟨y,G,A,o⟩:=za h;have J:=zY A hE
   split at o
   ·rename_i D;exact Za o (zD J D)
   ·obtain ⟨z,N,I,H⟩:=za o
    obtain ⟨z',R,U,Q⟩:=za H;exact Za Q (zY U (O _ _ _ _ I J))
end Go.Proofs.YtpejpbbdgblbeaaGreatDoor
