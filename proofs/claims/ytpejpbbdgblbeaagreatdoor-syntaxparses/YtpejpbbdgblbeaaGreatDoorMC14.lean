import Derived.Test.YtpejpbbdgblbeaaGreatDoorMC8
namespace Go.Proofs.YtpejpbbdgblbeaaGreatDoor
open Go.RowKit Go.Shelf
set_option maxHeartbeats 16000000
set_option maxRecDepth 100000
def Ex.line:Ex→Nat | .mk _ _ _ _ l=>l
def Ex.kind:Ex→Nat | .mk k _ _ _ _=>k
def zx:List Tk→Tk | t::_=>t | []=>⟨0,[],0,0,0⟩
abbrev PR (α:Type):=Except Nat (α × List Tk)
def zq {α β:Type} (x:Option (PR α)) (k:α→List Tk→Option (PR β)):Option (PR β) :=
 match x with
 | none=>none
 | some (.error a)=>some (.error a)
 | some (.ok (y,ts))=>k y ts
def Zf (s:List UInt8) (ts:List Tk):Option (PR Unit):=some (if zn (zx ts) s=true then .ok ((),ts.tail) else .error (zx ts).at0)
def Yg (ts:List Tk):Option (PR (List UInt8)):=some (if (zx ts).k=1 then .ok ((zx ts).s,ts.tail) else .error (zx ts).at0)
mutual
def zk:Nat→Nat→List Tk→Option (PR Ex)
 | 0,_,_=>none
 | f+1,least,ts=>if 6<least then ZP f ts else zq (zk f (least+1) ts) fun e ts=>Z5 f least e ts
def Z5:Nat→Nat→Ex→List Tk→Option (PR Ex)
 | 0,_,_,_=>none
 | f+1,least,e,ts=>if (zx ts).k=4∧levelOf (zx ts).s=least then zq (zk f (least+1) ts.tail) fun e2 ts'=>Z5 f least (.mk 7 (zx ts).s 0 [e,e2] e.line) ts' else some (.ok (e,ts))
def ZP:Nat→List Tk→Option (PR Ex)
 | 0,_=>none
 | f+1,ts=>if (zx ts).k=4∧((zx ts).s=[45]∨(zx ts).s=[33]) then zq (ZP f ts.tail) fun e ts'=>some (.ok (.mk 6 (zx ts).s 0 [e] (zx ts).line,ts')) else zq (Za f ts) fun e ts=>zN f e ts
def zN:Nat→Ex→List Tk→Option (PR Ex)
 | 0,_,_=>none
 | f+1,e,ts =>
  if zn (zx ts) [91]=true then zq (zk f 1 ts.tail) fun i ts=>zq (Zf [93] ts) fun _ ts=>zN f (.mk 8 [] 0 [e,i] e.line) ts
  else if zn (zx ts) [46]=true then zq (Yg ts.tail) fun s ts=>zN f (.mk 9 s 0 [e] e.line) ts
  else some (.ok (e,ts))
def Za:Nat→List Tk→Option (PR Ex)
 | 0,_=>none
 | f+1,ts =>
  if (zx ts).k=2 then some (.ok (.mk 1 [] (zx ts).n [] (zx ts).line,ts.tail))
  else if (zx ts).k=3 then some (.ok (.mk 3 (zx ts).s 0 [] (zx ts).line,ts.tail))
  else if (zx ts).k=1 then
   if zn (zx ts.tail) [40]=true then zq (zR f ts.tail) fun l ts'=>some (.ok (.mk 5 (zx ts).s 0 l (zx ts).line,ts')) else some (.ok (.mk 4 (zx ts).s 0 [] (zx ts).line,ts.tail))
  else if zn (zx ts) [116,114,117,101]=true then some (.ok (.mk 2 [] 1 [] (zx ts).line,ts.tail))
  else if zn (zx ts) [102,97,108,115,101]=true then some (.ok (.mk 2 [] 0 [] (zx ts).line,ts.tail))
  else if zn (zx ts) [110,101,119]=true then zq (Yg ts.tail) fun s ts'=>zq (zR f ts') fun l ts'=>some (.ok (.mk 11 s 0 l (zx ts).line,ts'))
  else if zn (zx ts) [91]=true then zq (Yh f [] ts.tail) fun l ts'=>zq (Zf [93] ts') fun _ ts'=>some (.ok (.mk 10 [] 0 l (zx ts).line,ts'))
  else zq (Zf [40] ts) fun _ ts=>zq (zk f 1 ts) fun e ts=>zq (Zf [41] ts) fun _ ts=>some (.ok (e,ts))
def Yh:Nat→List Ex→List Tk→Option (PR (List Ex))
 | 0,_,_=>none
 | f+1,pre,ts=>zq (zk f 1 ts) fun e ts=>if zn (zx ts) [44]=true then Yh f (pre++[e]) ts.tail else some (.ok (pre++[e],ts))
def zR:Nat→List Tk→Option (PR (List Ex))
 | 0,_=>none
 | f+1,ts=>zq (Zf [40] ts) fun _ ts=>if zn (zx ts) [41]=true then some (.ok ([],ts.tail)) else zq (Yh f [] ts) fun l ts=>zq (Zf [41] ts) fun _ ts=>some (.ok (l,ts))
end
theorem zJ {α β:Type} {x y:Option (PR α)} {k l:α→List Tk→Option (PR β)} {r:PR β} (h:zq x k=some r) (hx:∀r,x=some r→y=some r) (hk:∀a ts r,k a ts=some r→l a ts=some r):zq y l=some r:=by
 unfold zq at h ⊢
 cases x with
 | none=>cases h
 | some x =>
  rw [hx x rfl];cases x with
  | error a=>exact h
  | ok p=>exact hk _ _ _ h
theorem U8 (f:Nat) :
  (∀least ts r,zk f least ts=some r→zk (f+1) least ts=some r)∧(∀least e ts r,Z5 f least e ts=some r→Z5 (f+1) least e ts=some r) ∧
  (∀ts r,ZP f ts=some r→ZP (f+1) ts=some r)∧(∀e ts r,zN f e ts=some r→zN (f+1) e ts=some r)∧(∀ts r,Za f ts=some r→Za (f+1) ts=some r) ∧
  (∀pre ts r,Yh f pre ts=some r→Yh (f+1) pre ts=some r)∧(∀ts r,zR f ts=some r→zR (f+1) ts=some r):=by
 induction f with
 | zero=>refine ⟨?_,?_,?_,?_,?_,?_,?_⟩ <;> intros <;> rename_i h <;> simp [zk,Z5,ZP,zN,Za,Yh,zR] at h
 | succ f ih =>
  obtain ⟨i1,i2,i3,i4,i5,i6,i7⟩:=ih;refine ⟨fun least ts r h=>?_,fun least e ts r h=>?_,fun ts r h=>?_,fun e ts r h=>?_,fun ts r h=>?_,fun pre ts r h=>?_,fun ts r h=>?_⟩
  ·rw [zk] at h ⊢
   split at h
   ·rename_i hc;rw [if_pos hc];exact i3 _ _ h
   ·rename_i hc;rw [if_neg hc];exact zJ h (i1 _ _) fun a ts r=>i2 _ _ _ _
  ·rw [Z5] at h ⊢
   split at h
   ·rename_i hc;rw [if_pos hc];exact zJ h (i1 _ _) fun a ts r=>i2 _ _ _ _
   ·rename_i hc;rw [if_neg hc];exact h
  ·rw [ZP] at h ⊢
   split at h
   ·rename_i hc;rw [if_pos hc];exact zJ h (i3 _) fun a ts r h=>h
   ·rename_i hc;rw [if_neg hc];exact zJ h (i5 _) fun a ts r=>i4 _ _ _
  ·rw [zN] at h ⊢
   split at h
   ·rename_i hc;rw [if_pos hc];exact zJ h (i1 _ _) fun a ts r h=>zJ h (fun _ h=>h) fun a ts r=>i4 _ _ _
   ·rename_i hc;rw [if_neg hc]
    split at h
    ·rename_i hc;rw [if_pos hc];exact zJ h (fun _ h=>h) fun a ts r=>i4 _ _ _
    ·rename_i hc;rw [if_neg hc];exact h
  ·rw [Za] at h ⊢
   repeat' split at h
   all_goals simp_all only [if_true,if_false,Bool.false_eq_true]
   all_goals first
    | exact h
    | exact zJ h (i7 _) fun a ts r h=>h
    | exact zJ h (fun _ h=>h) fun a ts r h=>zJ h (i7 _) fun a ts r h=>h
    | exact zJ h (i6 _ _) fun a ts r h=>zJ h (fun _ h=>h) fun a ts r h=>h
    | exact zJ h (fun _ h=>h) fun a ts r h=>zJ h (i1 _ _) fun a ts r h=>zJ h (fun _ h=>h) fun a ts r h=>h
  ·rw [Yh] at h ⊢
   refine zJ h (i1 _ _) fun a ts r h=>?_
   split at h
   ·rename_i hc;rw [if_pos hc];exact i6 _ _ _ h
   ·rename_i hc;rw [if_neg hc];exact h
  ·rw [zR] at h ⊢
   refine zJ h (fun _ h=>h) fun a ts r h=>?_
   split at h
   ·rename_i hc;rw [if_pos hc];exact h
   ·rename_i hc;rw [if_neg hc];exact zJ h (i6 _ _) fun a ts r h=>h
def NmT (t:Tk):Prop:=t.k=1→t.s.length≤1099511627776
def zj:List Tk→Prop
 | []=>False
 | [t]=>t.k=0
 | t::ts=>t.k≠0∧NmT t∧zj ts
theorem zj.ne {ts:List Tk} (h:zj ts):ts≠[]:=by cases ts <;> simp [zj] at h ⊢
theorem zj.tail {t:Tk} {ts:List Tk} (h:zj (t::ts)) (hk:t.k≠0):zj ts:=by
 cases ts with
 | nil=>exact absurd h hk
 | cons u us=>exact h.2.2
theorem zj.names {ts:List Tk} (h:zj ts):∀t∈ts,NmT t:=by
 induction ts with
 | nil=>intro t ht;cases ht
 | cons u us ih =>
  intro t ht;cases us with
  | nil =>
   simp only [List.mem_singleton] at ht;subst ht;intro hk;have h0:t.k=0:=h;omega
  | cons v vs =>
   rcases List.mem_cons.1 ht with rfl | ht
   ·exact h.2.1
   ·exact ih h.2.2 t ht
theorem zl {t:Tk} {s:List UInt8} (h:zn t s=true):t.k≠0:=by
 unfold zn at h
 intro hk
 simp [hk] at h
theorem zj.cons {ts:List Tk} (h:zj ts):∃t us,ts=t::us:=by
 cases ts with
 | nil=>exact absurd h (by simp [zj])
 | cons t us=>exact ⟨t,us,rfl⟩
theorem xL {f k least:Nat} {ts:List Tk} {r:PR Ex} (h:zk f least ts=some r):zk (f+k) least ts=some r:=by
 induction k with
 | zero=>exact h
 | succ k ih=>exact (U8 (f+k)).1 _ _ _ ih
theorem Vy {f f' least:Nat} {ts:List Tk} {r r':PR Ex} (h:zk f least ts=some r) (h':zk f' least ts=some r'):r=r':=by
 have a:=xL (k:=f') h;have b:=xL (k:=f) h';rw [Nat.add_comm] at b;exact Option.some.inj (a.symm.trans b)
def zv (S:Nat→Prop) (w:World) (l:List Ex) (v:Value):Prop :=
 (l=[]∧v=.slice none 0 0)∨∃(g cap:Nat) (us:List (List Value)),v=.slice (some ⟨g,0,none⟩) l.length cap∧l≠[]∧us.length=l.length∧S g∧g<w.heap.size∧l.length≤cap∧cap≤maxLen ∧
  (∀j u,us.flatten[j]?=some u→w.cell? ⟨g,j,none⟩=some u)∧(∀c∈us,c.length=5)∧∀(j:Nat) (x:Ex) (c:List Value),l[j]?=some x→us[j]?=some c→zY S w x (.agg c.toArray)
abbrev yQ (B:Nat) (w:World) (l:List Ex) (v:Value):Prop:=zv (fun k=>B≤k) w l v
theorem zv.kept {S:Nat→Prop} {w w':World} {l:List Ex} {v:Value} (h:zv S w l v) (hs:w.heap.size≤w'.heap.size) (hb:∀k,S k→k<w.heap.size→w'.heap[k]?=w.heap[k]?):zv S w' l v:=by
 rcases h with h | ⟨g,cap,us,hv,hne,hlen,hB,hg,hc,hm,hcell,hfive,hk⟩
 ·exact .inl h
 ·refine .inr ⟨g,cap,us,hv,hne,hlen,hB,Nat.lt_of_lt_of_le hg hs,hc,hm,fun j u hj=>?_,hfive,fun j x c hx hc'=>zY.kept (hk j x c hx hc') hs hb⟩
  rw [World.cell?_of_block (hb g hB hg)];exact hcell j u hj
theorem zY.of_row {S:Nat→Prop} {w:World} {l:List Ex} {v:Value} (h:zv S w l v) (k:Nat) (s:List UInt8) (n:Int) (line:Nat):zY S w (.mk k s n l line) (.agg #[.int .i64 k,.string (za s),.int .i64 n,v,.int .i64 line]):=by
 rcases h with ⟨rfl,rfl⟩ | ⟨g,cap,us,rfl,hne,hlen,hB,hg,hc,hm,hcell,hfive,hk⟩
 ·exact .leaf k s n line
 ·exact .node k s n l line g cap us hne hlen hB hg hc hm hcell hfive hk
theorem zv.wide {S S':Nat→Prop} {w:World} {l:List Ex} {v:Value} (h:zv S w l v) (hS:∀k,S k→S' k):zv S' w l v:=by
 rcases h with h | ⟨g,cap,us,hv,hne,hlen,hB,hg,hc,hm,hcell,hfive,hk⟩
 ·exact .inl h
 ·exact .inr ⟨g,cap,us,hv,hne,hlen,hS _ hB,hg,hc,hm,hcell,hfive,fun j x c hx hc'=>zY.wide (hk j x c hx hc') hS⟩
theorem yQ.kept {B:Nat} {w w':World} {l:List Ex} {v:Value} (h:yQ B w l v) (hs:w.heap.size≤w'.heap.size) (hb:∀k,B≤k→k<w.heap.size→w'.heap[k]?=w.heap[k]?):yQ B w' l v:=zv.kept h hs hb
theorem ZO.of_row {B:Nat} {w:World} {l:List Ex} {v:Value} (h:yQ B w l v) (k:Nat) (s:List UInt8) (n:Int) (line:Nat):ZO B w (.mk k s n l line) (.agg #[.int .i64 k,.string (za s),.int .i64 n,v,.int .i64 line]):=zY.of_row h k s n line
theorem ZO.mono {B B':Nat} {w:World} {x:Ex} {v:Value} (h:ZO B w x v) (hb:B'≤B):ZO B' w x v:=zY.wide h fun _ hk=>Nat.le_trans hb hk
theorem yQ.mono {B B':Nat} {w:World} {l:List Ex} {v:Value} (h:yQ B w l v) (hb:B'≤B):yQ B' w l v:=zv.wide h fun _ hk=>Nat.le_trans hb hk
def zQ (r g:Nat) (w:World) (res:PR Ex) (e:Ending) (w':World):Prop :=
 zc r w w'∧match res with
  | .error a=>e=Z2 a
  | .ok (x,ts)=>∃v o cap,e=.returned v∧ZO w.heap.size w' x v∧zh r g o cap ts w'
def Vz (r g:Nat) (w:World) (res:PR (List Ex)) (e:Ending) (w':World):Prop :=
 zc r w w'∧match res with
  | .error a=>e=Z2 a
  | .ok (l,ts)=>∃v o cap,e=.returned v∧yQ w.heap.size w' l v∧zh r g o cap ts w'
theorem zc.cell {r:Nat} {w w':World} (h:zc r w w') {p:Addr} {v:Value} (hp:p.block≠r) (hc:w.cell? p=some v):w'.cell? p=some v:=by
 rw [World.cell?_of_block (h.block p.block (World.block_lt_of_cell? w _ hc) hp)];exact hc
abbrev set5 (w:World) (N:Nat) (a b c d e:Value):World:=((((w.setCell ⟨N,0,none⟩ a).setCell ⟨N,1,none⟩ b).setCell ⟨N,2,none⟩ c).setCell ⟨N,3,none⟩ d).setCell ⟨N,4,none⟩ e
theorem zA {w:World} {N:Nat} {x0 x1 x2 x3 x4:Value} {ty:TypeId} (h:w.heap[N]?=some (.cells #[x0,x1,x2,x3,x4] ty (0,0))) (a b c d e:Value) :
  (set5 w N a b c d e).cell? ⟨N,0,none⟩=some a∧(set5 w N a b c d e).cell? ⟨N,1,none⟩=some b∧(set5 w N a b c d e).cell? ⟨N,2,none⟩=some c∧(set5 w N a b c d e).cell? ⟨N,3,none⟩=some d∧(set5 w N a b c d e).cell? ⟨N,4,none⟩=some e:=by
 have q0:w.cell? ⟨N,0,none⟩=some x0:=by simp only [World.cell?,h];rfl
 have q1:w.cell? ⟨N,1,none⟩=some x1:=by simp only [World.cell?,h];rfl
 have q2:w.cell? ⟨N,2,none⟩=some x2:=by simp only [World.cell?,h];rfl
 have q3:w.cell? ⟨N,3,none⟩=some x3:=by simp only [World.cell?,h];rfl
 have q4:w.cell? ⟨N,4,none⟩=some x4:=by simp only [World.cell?,h];rfl
 refine ⟨?_,?_,?_,?_,?_⟩
 ·rw [World.cell?_setCell_other _ _ _ _ (by simp),World.cell?_setCell_other _ _ _ _ (by simp),World.cell?_setCell_other _ _ _ _ (by simp),World.cell?_setCell_other _ _ _ _ (by simp)]
  exact World.cell?_setCell_same _ _ _ q0
 ·rw [World.cell?_setCell_other _ _ _ _ (by simp),World.cell?_setCell_other _ _ _ _ (by simp),World.cell?_setCell_other _ _ _ _ (by simp)]
  exact World.cell?_setCell_same _ _ _ ((World.cell?_setCell_other _ _ _ _ (by simp)).trans q1)
 ·rw [World.cell?_setCell_other _ _ _ _ (by simp),World.cell?_setCell_other _ _ _ _ (by simp)]
  exact World.cell?_setCell_same _ _ _ ((World.cell?_setCell_other _ _ _ _ (by simp)).trans ((World.cell?_setCell_other _ _ _ _ (by simp)).trans q2))
 ·rw [World.cell?_setCell_other _ _ _ _ (by simp)]
  exact World.cell?_setCell_same _ _ _ ((World.cell?_setCell_other _ _ _ _ (by simp)).trans ((World.cell?_setCell_other _ _ _ _ (by simp)).trans ((World.cell?_setCell_other _ _ _ _ (by simp)).trans q3)))
 ·exact World.cell?_setCell_same _ _ _ ((World.cell?_setCell_other _ _ _ _ (by simp)).trans ((World.cell?_setCell_other _ _ _ _ (by simp)).trans ((World.cell?_setCell_other _ _ _ _ (by simp)).trans ((World.cell?_setCell_other _ _ _ _ (by simp)).trans q4))))
theorem zw (w:World) (N:Nat) (a b c d e:Value) {k:Nat} (hk:k≠N):(set5 w N a b c d e).heap[k]?=w.heap[k]?:=by
 rw [Below.heap_setCell _ _ _ _ (by simpa using hk),Below.heap_setCell _ _ _ _ (by simpa using hk),Below.heap_setCell _ _ _ _ (by simpa using hk),Below.heap_setCell _ _ _ _ (by simpa using hk),Below.heap_setCell _ _ _ _ (by simpa using hk)]
theorem yq {r:Nat} {w0 w:World} {N:Nat} (h:zc r w0 w) (hN:w0.heap.size≤N) (a b c d e:Value):zc r w0 (set5 w N a b c d e):=by
 have hb:Below 0 w (set5 w N a b c d e):=(((((Below.refl 0 w).setCell (p:=⟨N,0,none⟩) (Nat.zero_le _) a).setCell (p:=⟨N,1,none⟩) (Nat.zero_le _) b).setCell (p:=⟨N,2,none⟩) (Nat.zero_le _) c).setCell (p:=⟨N,3,none⟩) (Nat.zero_le _) d).setCell (p:=⟨N,4,none⟩) (Nat.zero_le _) e;exact ⟨hb.os.trans h.os,hb.tape.trans h.tape,hb.output.trans h.output,Nat.le_trans h.size hb.size,fun k hk hr=>(zw w N a b c d e (by omega)).trans (h.block k hk hr)⟩
theorem zbl (r g o cap:Nat) (t u:Tk) (us:List Tk) (w:World) (h:zh r g o cap (t::u::us) w) (hk:t.k=1) (hu:zn u [40]=false) :
  Calls Tryz.prog 194 #[.pointer (some ⟨r,0,none⟩)] w (zQ r g w (.ok (.mk 4 t.s 0 [] t.line,u::us))):=by
 have hf:=Z1;have hr:=h.lt.1;have hgw:=h.lt.2;have h0:=h.alloc (.cells #[.int .i64 0,.string ⟨#[]⟩,.int .i64 0,.slice none 0 0,.int .i64 0] 45);have ch:=yR r g o cap t (u::us) _ h0;obtain ⟨w2,hw2⟩:∃w2,w2=((w.alloc (.cells #[.int .i64 0,.string ⟨#[]⟩,.int .i64 0,.slice none 0 0,.int .i64 0] 45)).alloc (yi t)).alloc (.cells #[.int .i64 4,.string ⟨#[]⟩,.int .i64 0,.slice none 0 0,.int .i64 t.line] 45):=⟨_,rfl⟩;have h2:zh r g o cap (t::u::us) w2:=by rw [hw2];exact (h0.alloc _).alloc _
 have HK2:Hid (zc r w w2):=by rw [hw2];exact (((zc.refl r w).alloc _).alloc _).alloc _
 have cn:=Xl r g o cap t (u::us) w2 h2 (fun _=>by simp)
 simp only [hk,if_true] at cn;clear h h0 h2
 go_enter Tryz.func194,Tryz.ntmps194
 go_wp2_with fail
 refine ch.mono ?_;clear ch;rintro e w1 ⟨rfl,rfl⟩;simp only [Xc];go_wp2_with fail
 rw [←hw2];refine cn.mono ?_;clear cn;rintro e w3 ⟨hk3,rfl,h3⟩
 have n2:w2.heap[w.heap.size+1+1]?=some (.cells #[.int .i64 4,.string ⟨#[]⟩,.int .i64 0,.slice none 0 0,.int .i64 t.line] 45 (0,0)):=by
  have hx:=World.alloc_heap_new ((w.alloc (.cells #[.int .i64 0,.string ⟨#[]⟩,.int .i64 0,.slice none 0 0,.int .i64 0] 45)).alloc (yi t)) (.cells #[.int .i64 4,.string ⟨#[]⟩,.int .i64 0,.slice none 0 0,.int .i64 t.line] 45);rw [←hw2,show ((w.alloc (.cells #[.int .i64 0,.string ⟨#[]⟩,.int .i64 0,.slice none 0 0,.int .i64 0] 45)).alloc (yi t)).heap.size=w.heap.size+1+1 by simp] at hx
  exact hx
 have n0:w2.heap[w.heap.size]?=some (.cells #[.int .i64 0,.string ⟨#[]⟩,.int .i64 0,.slice none 0 0,.int .i64 0] 45 (0,0)):=by
  rw [hw2,Below.heap_alloc _ _ _ (by simp;omega),Below.heap_alloc _ _ _ (by simp)]
  exact World.alloc_heap_new _ _
 have n2':=(hk3.block _ (Array.getElem?_eq_some_iff.1 n2).1 (by omega)).trans n2
 have n0':=(hk3.block _ (Array.getElem?_eq_some_iff.1 n0).1 (by omega)).trans n0
 have HK3:Hid (zc r w w3):=HK2.out.trans hk3;clear n2 n0 hk3 hw2 HK2;have c0:w3.cell? ⟨w.heap.size+1+1,0,none⟩=some (.int .i64 4):=by simp only [World.cell?,n2'];rfl
 have c1:w3.cell? ⟨w.heap.size+1+1,1,none⟩=some (.string ⟨#[]⟩):=by simp only [World.cell?,n2'];rfl
 have c2:w3.cell? ⟨w.heap.size+1+1,2,none⟩=some (.int .i64 0):=by simp only [World.cell?,n2'];rfl
 have c3:w3.cell? ⟨w.heap.size+1+1,3,none⟩=some (.slice none 0 0):=by simp only [World.cell?,n2'];rfl
 have c4:w3.cell? ⟨w.heap.size+1+1,4,none⟩=some (.int .i64 t.line):=by simp only [World.cell?,n2'];rfl
 have cf:w3.frozen? ⟨w.heap.size+1+1,1,none⟩=false:=by simp only [World.frozen?,n2'];rfl
 obtain ⟨w4,hw4⟩:∃w4,w4=w3.setCell ⟨w.heap.size+1+1,1,none⟩ (.string (za t.s)):=⟨_,rfl⟩;have d0:w4.cell? ⟨w.heap.size+1+1,0,none⟩=some (.int .i64 4):=by rw [hw4,World.cell?_setCell_other _ _ _ _ (by simp)];exact c0
 have d1:w4.cell? ⟨w.heap.size+1+1,1,none⟩=some (.string (za t.s)):=by rw [hw4];exact World.cell?_setCell_same _ _ _ c1
 have d2:w4.cell? ⟨w.heap.size+1+1,2,none⟩=some (.int .i64 0):=by rw [hw4,World.cell?_setCell_other _ _ _ _ (by simp)];exact c2
 have d3:w4.cell? ⟨w.heap.size+1+1,3,none⟩=some (.slice none 0 0):=by rw [hw4,World.cell?_setCell_other _ _ _ _ (by simp)];exact c3
 have d4:w4.cell? ⟨w.heap.size+1+1,4,none⟩=some (.int .i64 t.line):=by rw [hw4,World.cell?_setCell_other _ _ _ _ (by simp)];exact c4
 have hkeep:∀k,k≠w.heap.size+1+1→w4.heap[k]?=w3.heap[k]?:=fun k hk=>by rw [hw4];exact Below.heap_setCell _ _ _ _ (by simpa using hk)
 have h4:zh r g (o+5) (cap-1) (u::us) w4:=h3.keep (hkeep r (by omega)) (hkeep g (by omega))
 have HK4:Hid (zc r w w4):=⟨by rw [hw4];exact HK3.out.os,by rw [hw4];exact HK3.out.tape,by rw [hw4];exact HK3.out.output,by rw [hw4];simpa using HK3.out.size,fun k hk hr=>(hkeep k (by omega)).trans (HK3.out.block k hk hr)⟩
 have m0':=(hkeep w.heap.size (by omega)).trans n0'
 have ci:=zgB r g (o+5) (cap-1) u us [40] w4 h4;rw [hu] at ci;have hw4':Hid (w3.setCell ⟨w.heap.size+1+1,1,none⟩ (.string (za t.s))=w4):=hw4.symm;obtain ⟨w5,hw5⟩:∃w5,w5=(w4.alloc (yi u)).alloc (yi u):=⟨_,rfl⟩;rw [←hw5] at ci;have HR5:Hid (zh r g (o+5) (cap-1) (u::us) w5):=by rw [hw5];exact (h4.alloc _).alloc _
 have HK5:Hid (zc r w w5):=by rw [hw5];exact (HK4.out.alloc _).alloc _
 have e0:w5.cell? ⟨w.heap.size+1+1,0,none⟩=some (.int .i64 4):=by rw [hw5];exact ze (ze d0 _) _
 have e1:w5.cell? ⟨w.heap.size+1+1,1,none⟩=some (.string (za t.s)):=by rw [hw5];exact ze (ze d1 _) _
 have e2:w5.cell? ⟨w.heap.size+1+1,2,none⟩=some (.int .i64 0):=by rw [hw5];exact ze (ze d2 _) _
 have e3:w5.cell? ⟨w.heap.size+1+1,3,none⟩=some (.slice none 0 0):=by rw [hw5];exact ze (ze d3 _) _
 have e4:w5.cell? ⟨w.heap.size+1+1,4,none⟩=some (.int .i64 t.line):=by rw [hw5];exact ze (ze d4 _) _
 have hl0:w.heap.size<w4.heap.size:=(Array.getElem?_eq_some_iff.1 m0').1
 have p0:w5.heap[w.heap.size]?=some (.cells #[.int .i64 0,.string ⟨#[]⟩,.int .i64 0,.slice none 0 0,.int .i64 0] 45 (0,0)):=by
  rw [hw5,Below.heap_alloc _ _ _ (by simp;omega),Below.heap_alloc _ _ _ hl0];exact m0'
 clear hw4 hkeep h3 h4 n2' n0' m0' HK3 HK4 d0 d1 d2 d3 d4 hw5 hl0;go_wp2_with fail
 rw [hw4'.out];refine ci.mono ?_;clear ci c0 c1 c2 c3 c4 cf;rintro e w6 ⟨rfl,rfl⟩;have q0:w6.cell? ⟨w.heap.size,0,none⟩=some (.int .i64 0):=by simp only [World.cell?,p0];rfl
 have q1:w6.cell? ⟨w.heap.size,1,none⟩=some (.string ⟨#[]⟩):=by simp only [World.cell?,p0];rfl
 have q2:w6.cell? ⟨w.heap.size,2,none⟩=some (.int .i64 0):=by simp only [World.cell?,p0];rfl
 have q3:w6.cell? ⟨w.heap.size,3,none⟩=some (.slice none 0 0):=by simp only [World.cell?,p0];rfl
 have q4:w6.cell? ⟨w.heap.size,4,none⟩=some (.int .i64 0):=by simp only [World.cell?,p0];rfl
 have qf:∀j,w6.frozen? ⟨w.heap.size,j,none⟩=false:=fun j=>by simp only [World.frozen?,p0];simp
 go_wp2
 obtain ⟨z0,z1,z2,z3,z4⟩:=zA p0 (.int .i64 4) (.string (za t.s)) (.int .i64 0) (.slice none 0 0) (.int .i64 t.line);refine bodyPost_ret (v:=.agg #[.int .i64 4,.string (za t.s),.int .i64 0,.slice none 0 0,.int .i64 t.line]) (by simp [results,Tryz.results194,go_sem,z0,z1,z2,z3,z4]) rfl ⟨yq HK5.out (Nat.le_refl _) _ _ _ _ _,_,o+5,cap-1,rfl,.leaf 4 t.s 0 t.line,?_⟩
 exact HR5.out.keep (zw _ _ _ _ _ _ _ (by omega)) (zw _ _ _ _ _ _ _ (by omega))
def zdD (t:Tk):PR (List Ex)→PR Ex
 | .error a=>.error a
 | .ok (l,ts)=>.ok (.mk 5 t.s 0 l t.line,ts)
theorem zc.setOther {r:Nat} {w w':World} (h:zc r w w') {p:Addr} (hp:w.heap.size≤p.block) (v:Value):zc r w (w'.setCell p v):=by
 have hb:Below 0 w' (w'.setCell p v):=(Below.refl 0 w').setCell (p:=p) (Nat.zero_le _) v;exact ⟨hb.os.trans h.os,hb.tape.trans h.tape,hb.output.trans h.output,Nat.le_trans h.size hb.size,fun k hk hr=>(Below.heap_setCell _ _ _ _ (by omega)).trans (h.block k hk hr)⟩
theorem UE {w w':World} {p:Addr} (h:w'.heap[p.block]?=w.heap[p.block]?):w'.frozen? p=w.frozen? p:=by
 simp only [World.frozen?,h]
theorem zcG (r g o cap:Nat) (t u:Tk) (us:List Tk) (w:World) (res:PR (List Ex)) (h:zh r g o cap (t::u::us) w) (hk:t.k=1) (hu:zn u [40]=true)
  (hbr:∀w1 o1 cap1,zh r g o1 cap1 (u::us) w1→zc r w w1→Calls Tryz.prog 195 #[.pointer (some ⟨r,0,none⟩),.func (.func 44) #[.pointer (some ⟨r,0,none⟩)] #[]] w1 (Vz r g w1 res)) :
  Calls Tryz.prog 194 #[.pointer (some ⟨r,0,none⟩)] w (zQ r g w (zdD t res)):=by
 have hmf:∀(fn:Fn) (first cap:Array Value) (w:World),(Instr.makeFunc fn first cap).run Tryz.prog w=.ok (.func fn first cap) w:=fun _ _ _ _=>rfl
 generalize hres:zdD t res=res';have hf:=Z1;have hr:=h.lt.1;have hgw:=h.lt.2;have h0:=h.alloc (.cells #[.int .i64 0,.string ⟨#[]⟩,.int .i64 0,.slice none 0 0,.int .i64 0] 45);have ch:=yR r g o cap t (u::us) _ h0;obtain ⟨w2,hw2⟩:∃w2,w2=((w.alloc (.cells #[.int .i64 0,.string ⟨#[]⟩,.int .i64 0,.slice none 0 0,.int .i64 0] 45)).alloc (yi t)).alloc (.cells #[.int .i64 4,.string ⟨#[]⟩,.int .i64 0,.slice none 0 0,.int .i64 t.line] 45):=⟨_,rfl⟩;have h2:zh r g o cap (t::u::us) w2:=by rw [hw2];exact (h0.alloc _).alloc _
 have HK2:Hid (zc r w w2):=by rw [hw2];exact (((zc.refl r w).alloc _).alloc _).alloc _
 have cn:=Xl r g o cap t (u::us) w2 h2 (fun _=>by simp)
 simp only [hk,if_true] at cn;clear h h0 h2
 go_enter Tryz.func194,Tryz.ntmps194
 go_wp2_with fail
 refine ch.mono ?_;clear ch;rintro e w1 ⟨rfl,rfl⟩;simp only [Xc];go_wp2_with fail
 rw [←hw2];refine cn.mono ?_;clear cn;rintro e w3 ⟨hk3,rfl,h3⟩
 have n2:w2.heap[w.heap.size+1+1]?=some (.cells #[.int .i64 4,.string ⟨#[]⟩,.int .i64 0,.slice none 0 0,.int .i64 t.line] 45 (0,0)):=by
  have hx:=World.alloc_heap_new ((w.alloc (.cells #[.int .i64 0,.string ⟨#[]⟩,.int .i64 0,.slice none 0 0,.int .i64 0] 45)).alloc (yi t)) (.cells #[.int .i64 4,.string ⟨#[]⟩,.int .i64 0,.slice none 0 0,.int .i64 t.line] 45);rw [←hw2,show ((w.alloc (.cells #[.int .i64 0,.string ⟨#[]⟩,.int .i64 0,.slice none 0 0,.int .i64 0] 45)).alloc (yi t)).heap.size=w.heap.size+1+1 by simp] at hx
  exact hx
 have n0:w2.heap[w.heap.size]?=some (.cells #[.int .i64 0,.string ⟨#[]⟩,.int .i64 0,.slice none 0 0,.int .i64 0] 45 (0,0)):=by
  rw [hw2,Below.heap_alloc _ _ _ (by simp;omega),Below.heap_alloc _ _ _ (by simp)]
  exact World.alloc_heap_new _ _
 have n2':=(hk3.block _ (Array.getElem?_eq_some_iff.1 n2).1 (by omega)).trans n2
 have n0':=(hk3.block _ (Array.getElem?_eq_some_iff.1 n0).1 (by omega)).trans n0
 have HK3:Hid (zc r w w3):=HK2.out.trans hk3;clear n2 n0 hk3 hw2 HK2;have c0:w3.cell? ⟨w.heap.size+1+1,0,none⟩=some (.int .i64 4):=by simp only [World.cell?,n2'];rfl
 have c1:w3.cell? ⟨w.heap.size+1+1,1,none⟩=some (.string ⟨#[]⟩):=by simp only [World.cell?,n2'];rfl
 have c2:w3.cell? ⟨w.heap.size+1+1,2,none⟩=some (.int .i64 0):=by simp only [World.cell?,n2'];rfl
 have c3:w3.cell? ⟨w.heap.size+1+1,3,none⟩=some (.slice none 0 0):=by simp only [World.cell?,n2'];rfl
 have c4:w3.cell? ⟨w.heap.size+1+1,4,none⟩=some (.int .i64 t.line):=by simp only [World.cell?,n2'];rfl
 have cf:w3.frozen? ⟨w.heap.size+1+1,1,none⟩=false:=by simp only [World.frozen?,n2'];rfl
 obtain ⟨w4,hw4⟩:∃w4,w4=w3.setCell ⟨w.heap.size+1+1,1,none⟩ (.string (za t.s)):=⟨_,rfl⟩;have d0:w4.cell? ⟨w.heap.size+1+1,0,none⟩=some (.int .i64 4):=by rw [hw4,World.cell?_setCell_other _ _ _ _ (by simp)];exact c0
 have d1:w4.cell? ⟨w.heap.size+1+1,1,none⟩=some (.string (za t.s)):=by rw [hw4];exact World.cell?_setCell_same _ _ _ c1
 have d2:w4.cell? ⟨w.heap.size+1+1,2,none⟩=some (.int .i64 0):=by rw [hw4,World.cell?_setCell_other _ _ _ _ (by simp)];exact c2
 have d3:w4.cell? ⟨w.heap.size+1+1,3,none⟩=some (.slice none 0 0):=by rw [hw4,World.cell?_setCell_other _ _ _ _ (by simp)];exact c3
 have d4:w4.cell? ⟨w.heap.size+1+1,4,none⟩=some (.int .i64 t.line):=by rw [hw4,World.cell?_setCell_other _ _ _ _ (by simp)];exact c4
 have hkeep:∀k,k≠w.heap.size+1+1→w4.heap[k]?=w3.heap[k]?:=fun k hk=>by rw [hw4];exact Below.heap_setCell _ _ _ _ (by simpa using hk)
 have h4:zh r g (o+5) (cap-1) (u::us) w4:=h3.keep (hkeep r (by omega)) (hkeep g (by omega))
 have HK4:Hid (zc r w w4):=⟨by rw [hw4];exact HK3.out.os,by rw [hw4];exact HK3.out.tape,by rw [hw4];exact HK3.out.output,by rw [hw4];simpa using HK3.out.size,fun k hk hr=>(hkeep k (by omega)).trans (HK3.out.block k hk hr)⟩
 have m0':=(hkeep w.heap.size (by omega)).trans n0'
 have ci:=zgB r g (o+5) (cap-1) u us [40] w4 h4;rw [hu] at ci;have hw4':Hid (w3.setCell ⟨w.heap.size+1+1,1,none⟩ (.string (za t.s))=w4):=hw4.symm;obtain ⟨w5,hw5⟩:∃w5,w5=(w4.alloc (yi u)).alloc (yi u):=⟨_,rfl⟩;rw [←hw5] at ci;have HR5:Hid (zh r g (o+5) (cap-1) (u::us) w5):=by rw [hw5];exact (h4.alloc _).alloc _
 have HK5:Hid (zc r w w5):=by rw [hw5];exact (HK4.out.alloc _).alloc _
 have e0:w5.cell? ⟨w.heap.size+1+1,0,none⟩=some (.int .i64 4):=by rw [hw5];exact ze (ze d0 _) _
 have e1:w5.cell? ⟨w.heap.size+1+1,1,none⟩=some (.string (za t.s)):=by rw [hw5];exact ze (ze d1 _) _
 have e2:w5.cell? ⟨w.heap.size+1+1,2,none⟩=some (.int .i64 0):=by rw [hw5];exact ze (ze d2 _) _
 have e3:w5.cell? ⟨w.heap.size+1+1,3,none⟩=some (.slice none 0 0):=by rw [hw5];exact ze (ze d3 _) _
 have e4:w5.cell? ⟨w.heap.size+1+1,4,none⟩=some (.int .i64 t.line):=by rw [hw5];exact ze (ze d4 _) _
 have hl0:w.heap.size<w4.heap.size:=(Array.getElem?_eq_some_iff.1 m0').1
 have p0:w5.heap[w.heap.size]?=some (.cells #[.int .i64 0,.string ⟨#[]⟩,.int .i64 0,.slice none 0 0,.int .i64 0] 45 (0,0)):=by
  rw [hw5,Below.heap_alloc _ _ _ (by simp;omega),Below.heap_alloc _ _ _ hl0];exact m0'
 have m2':w5.frozen? ⟨w.heap.size+1+1,0,none⟩=false:=by
  have hf4:w4.frozen? ⟨w.heap.size+1+1,0,none⟩=false:=by rw [hw4,World.frozen?_setCell];simp only [World.frozen?,n2'];rfl
  have hb4:=World.block_lt_of_cell? w4 _ d0;rw [hw5];simp only [World.frozen?] at hf4 ⊢;rw [Below.heap_alloc _ _ _ (by simp;simp at hb4;omega),Below.heap_alloc _ _ _ hb4];exact hf4
 have m3':w5.frozen? ⟨w.heap.size+1+1,3,none⟩=false:=by
  have hf4:w4.frozen? ⟨w.heap.size+1+1,3,none⟩=false:=by rw [hw4,World.frozen?_setCell];simp only [World.frozen?,n2'];rfl
  have hb4:=World.block_lt_of_cell? w4 _ d0;rw [hw5];simp only [World.frozen?] at hf4 ⊢;rw [Below.heap_alloc _ _ _ (by simp;simp at hb4;omega),Below.heap_alloc _ _ _ hb4];exact hf4
 clear hw4 hkeep h3 h4 n2' n0' m0' HK3 HK4 d0 d1 d2 d3 d4 hw5 hl0;go_wp2_with fail
 rw [hw4'.out];refine ci.mono ?_;clear ci c0 c1 c2 c3 c4 cf;rintro e w6 ⟨rfl,rfl⟩;obtain ⟨w7,hw7⟩:∃w7,w7=w6.setCell ⟨w.heap.size+1+1,0,none⟩ (.int .i64 5):=⟨_,rfl⟩;have HW7:Hid (w6.setCell ⟨w.heap.size+1+1,0,none⟩ (.int .i64 5)=w7):=hw7.symm;have hkeep:∀k,k≠w.heap.size+1+1→w7.heap[k]?=w6.heap[k]?:=fun k hk=>by rw [hw7];exact Below.heap_setCell _ _ _ _ (by simpa using hk)
 have h7:zh r g (o+5) (cap-1) (u::us) w7:=HR5.out.keep (hkeep r (by omega)) (hkeep g (by omega))
 have k7:zc r w w7:=by rw [hw7];exact HK5.out.setOther (by simp;omega) _
 have HK7:Hid (zc r w w7):=k7;have cb:=hbr w7 _ _ h7 k7;have f0:w7.cell? ⟨w.heap.size+1+1,0,none⟩=some (.int .i64 5):=by rw [hw7];exact World.cell?_setCell_same _ _ _ e0
 have f1:w7.cell? ⟨w.heap.size+1+1,1,none⟩=some (.string (za t.s)):=by rw [hw7,World.cell?_setCell_other _ _ _ _ (by simp)];exact e1
 have f2:w7.cell? ⟨w.heap.size+1+1,2,none⟩=some (.int .i64 0):=by rw [hw7,World.cell?_setCell_other _ _ _ _ (by simp)];exact e2
 have f3:w7.cell? ⟨w.heap.size+1+1,3,none⟩=some (.slice none 0 0):=by rw [hw7,World.cell?_setCell_other _ _ _ _ (by simp)];exact e3
 have f4:w7.cell? ⟨w.heap.size+1+1,4,none⟩=some (.int .i64 t.line):=by rw [hw7,World.cell?_setCell_other _ _ _ _ (by simp)];exact e4
 have ff:w7.frozen? ⟨w.heap.size+1+1,3,none⟩=false:=by rw [hw7,World.frozen?_setCell];exact m3'
 have p7:=(hkeep w.heap.size (by omega)).trans p0
 clear hbr h7 k7 hw7 hkeep p0;go_wp2_with fail
 rw [HW7.out];refine cb.mono ?_;clear cb e0 e1 e2 e3 e4 m2' m3';rintro e w8 ⟨hk8,hpost⟩;subst hres;rcases res with a | ⟨l,ts⟩
 ·obtain rfl:=hpost
  exact ⟨rfl,HK7.out.trans hk8,rfl⟩
 ·obtain ⟨v,o8,cap8,rfl,hrow,hrd⟩:=hpost
  have hr7:r≠w.heap.size+1+1:=by omega
  have g0:=hk8.cell (p:=⟨w.heap.size+1+1,0,none⟩) (fun h=>hr7 h.symm) f0
  have g1:=hk8.cell (p:=⟨w.heap.size+1+1,1,none⟩) (fun h=>hr7 h.symm) f1
  have g2:=hk8.cell (p:=⟨w.heap.size+1+1,2,none⟩) (fun h=>hr7 h.symm) f2
  have g3:=hk8.cell (p:=⟨w.heap.size+1+1,3,none⟩) (fun h=>hr7 h.symm) f3
  have g4:=hk8.cell (p:=⟨w.heap.size+1+1,4,none⟩) (fun h=>hr7 h.symm) f4
  have gf:w8.frozen? ⟨w.heap.size+1+1,3,none⟩=false:=(UE (p:=⟨w.heap.size+1+1,3,none⟩) (hk8.block _ (World.block_lt_of_cell? w7 _ f3) (fun h=>hr7 h.symm))).trans ff
  have p8:=(hk8.block w.heap.size (Array.getElem?_eq_some_iff.1 p7).1 (by omega)).trans p7
  have HK8:Hid (zc r w w8):=HK7.out.trans hk8;have hN7:w.heap.size+1+1<w7.heap.size:=World.block_lt_of_cell? w7 _ f0;obtain ⟨w9,hw9⟩:∃w9,w9=w8.setCell ⟨w.heap.size+1+1,3,none⟩ v:=⟨_,rfl⟩;have HW9:Hid (w9=w8.setCell ⟨w.heap.size+1+1,3,none⟩ v):=hw9;have hkeep:∀k,k≠w.heap.size+1+1→w9.heap[k]?=w8.heap[k]?:=fun k hk=>by rw [hw9];exact Below.heap_setCell _ _ _ _ (by simpa using hk)
  have hsz9:w8.heap.size≤w9.heap.size:=by rw [hw9];simp
  have HRow:Hid (yQ w7.heap.size w9 l v):=hrow.kept hsz9 fun k hB _=>hkeep k (by omega)
  have HRd:Hid (zh r g o8 cap8 ts w9):=hrd.keep (hkeep r (by omega)) (hkeep g (by omega))
  have HK9:Hid (zc r w w9):=by rw [hw9];exact HK8.out.setOther (by simp;omega) _
  have p9:=(hkeep w.heap.size (by omega)).trans p8
  have i0:w9.cell? ⟨w.heap.size+1+1,0,none⟩=some (.int .i64 5):=by rw [hw9,World.cell?_setCell_other _ _ _ _ (by simp)];exact g0
  have i1:w9.cell? ⟨w.heap.size+1+1,1,none⟩=some (.string (za t.s)):=by rw [hw9,World.cell?_setCell_other _ _ _ _ (by simp)];exact g1
  have i2:w9.cell? ⟨w.heap.size+1+1,2,none⟩=some (.int .i64 0):=by rw [hw9,World.cell?_setCell_other _ _ _ _ (by simp)];exact g2
  have i3:w9.cell? ⟨w.heap.size+1+1,3,none⟩=some v:=by rw [hw9];exact World.cell?_setCell_same _ _ _ g3
  have i4:w9.cell? ⟨w.heap.size+1+1,4,none⟩=some (.int .i64 t.line):=by rw [hw9,World.cell?_setCell_other _ _ _ _ (by simp)];exact g4
  have q0:w9.cell? ⟨w.heap.size,0,none⟩=some (.int .i64 0):=by simp only [World.cell?,p9];rfl
  have q1:w9.cell? ⟨w.heap.size,1,none⟩=some (.string ⟨#[]⟩):=by simp only [World.cell?,p9];rfl
  have q2:w9.cell? ⟨w.heap.size,2,none⟩=some (.int .i64 0):=by simp only [World.cell?,p9];rfl
  have q3:w9.cell? ⟨w.heap.size,3,none⟩=some (.slice none 0 0):=by simp only [World.cell?,p9];rfl
  have q4:w9.cell? ⟨w.heap.size,4,none⟩=some (.int .i64 0):=by simp only [World.cell?,p9];rfl
  have qf:∀j,w9.frozen? ⟨w.heap.size,j,none⟩=false:=fun j=>by simp only [World.frozen?,p9];simp
  have hnv:∃a n c,v=.slice a n c:=by
   rcases hrow with ⟨-,rfl⟩ | ⟨_,_,_,rfl,_⟩
   ·exact ⟨_,_,_,rfl⟩
   ·exact ⟨_,_,_,rfl⟩
  obtain ⟨va,vn,vc,rfl⟩:=hnv;clear hkeep hrow hrd f0 f1 f2 f3 f4 ff hk8 p8 g0 g1 g2 g4;have hw9':=hw9.symm;clear hw9;go_wp2
  obtain ⟨z0,z1,z2,z3,z4⟩:=zA p9 (.int .i64 5) (.string (za t.s)) (.int .i64 0) (.slice va vn vc) (.int .i64 t.line);refine bodyPost_ret (v:=.agg #[.int .i64 5,.string (za t.s),.int .i64 0,.slice va vn vc,.int .i64 t.line]) (by simp [results,Tryz.results194,go_sem,z0,z1,z2,z3,z4]) rfl ⟨yq HK9.out (Nat.le_refl _) _ _ _ _ _,_,o8,cap8,rfl,?_,?_⟩
  ·have hrow:yQ w7.heap.size (set5 w9 w.heap.size (.int .i64 5) (.string (za t.s)) (.int .i64 0) (.slice va vn vc) (.int .i64 t.line)) l (.slice va vn vc) :=
    HRow.out.kept (by simp) fun k hB _=>zw _ _ _ _ _ _ _ (by omega)
   exact ZO.of_row (hrow.mono (by omega)) 5 t.s 0 t.line
  ·exact HRd.out.keep (zw _ _ _ _ _ _ _ (by omega)) (zw _ _ _ _ _ _ _ (by omega))
theorem zY.agg {S:Nat→Prop} {w:World} {x:Ex} {v:Value} (h:zY S w x v):∃(a:Int) (b:ByteArray) (c:Int) (d0:Option Addr) (d1 d2:Nat) (e:Int),v=.agg #[.int .i64 a,.string b,.int .i64 c,.slice d0 d1 d2,.int .i64 e]:=by
 cases h with
 | leaf=>exact ⟨_,_,_,_,_,_,_,rfl⟩
 | node=>exact ⟨_,_,_,_,_,_,_,rfl⟩
abbrev ZA:Obj:=.cells #[.int .i64 0,.string ⟨#[]⟩,.int .i64 0,.slice none 0 0,.int .i64 0] 45
theorem zhy (r g:Nat) (w:World) (res:PR Ex) (hr:r<w.heap.size) (hgw:g<w.heap.size)
  (hb:Calls Tryz.prog 86 #[.pointer (some ⟨r,0,none⟩),.int .i64 1] (w.alloc ZA) (zQ r g (w.alloc ZA) res)) :
  Calls Tryz.prog 44 #[.pointer (some ⟨r,0,none⟩)] w (zQ r g w res):=by
 go_enter Tryz.func44,Tryz.ntmps44
 go_wp2_with fail
 refine hb.mono ?_;clear hb;rintro e w1 ⟨hk1,hpost⟩;have hK:zc r w w1:=((zc.refl r w).alloc _).trans hk1;rcases res with a | ⟨x,ts⟩
 ·obtain rfl:=hpost
  exact ⟨rfl,hK,rfl⟩
 ·obtain ⟨v,o,cap,rfl,hx,hrd⟩:=hpost
  obtain ⟨a,b,c,d0,d1,d2,e,rfl⟩:=hx.agg;have hsz:(w.alloc ZA).heap.size=w.heap.size+1:=by simp
  have p0:w1.heap[w.heap.size]?=some ZA:=(hk1.block w.heap.size (by omega) (by omega)).trans (World.alloc_heap_new w _)
  have q0:w1.cell? ⟨w.heap.size,0,none⟩=some (.int .i64 0):=by simp only [World.cell?,p0];rfl
  have q1:w1.cell? ⟨w.heap.size,1,none⟩=some (.string ⟨#[]⟩):=by simp only [World.cell?,p0];rfl
  have q2:w1.cell? ⟨w.heap.size,2,none⟩=some (.int .i64 0):=by simp only [World.cell?,p0];rfl
  have q3:w1.cell? ⟨w.heap.size,3,none⟩=some (.slice none 0 0):=by simp only [World.cell?,p0];rfl
  have q4:w1.cell? ⟨w.heap.size,4,none⟩=some (.int .i64 0):=by simp only [World.cell?,p0];rfl
  have qf:∀j,w1.frozen? ⟨w.heap.size,j,none⟩=false:=fun j=>by simp only [World.frozen?,p0];simp
  have HX:Hid (ZO (w.alloc ZA).heap.size w1 x (.agg #[.int .i64 a,.string b,.int .i64 c,.slice d0 d1 d2,.int .i64 e])):=hx;have HR:Hid (zh r g o cap ts w1):=hrd;have HK:Hid (zc r w w1):=hK;clear hk1 hx hrd hK;go_wp2
  obtain ⟨z0,z1,z2,z3,z4⟩:=zA p0 (.int .i64 a) (.string b) (.int .i64 c) (.slice d0 d1 d2) (.int .i64 e);refine bodyPost_ret (v:=.agg #[.int .i64 a,.string b,.int .i64 c,.slice d0 d1 d2,.int .i64 e]) (by simp [results,Tryz.results44,go_sem,z0,z1,z2,z3,z4]) rfl ⟨yq HK.out (Nat.le_refl _) _ _ _ _ _,_,o,cap,rfl,?_,?_⟩
  ·exact (HX.out.kept (w':=set5 w1 w.heap.size (.int .i64 a) (.string b) (.int .i64 c) (.slice d0 d1 d2) (.int .i64 e)) (by simp) fun k hB _=>zw _ _ _ _ _ _ _ (by omega)).mono (by omega)
  ·exact HR.out.keep (zw _ _ _ _ _ _ _ (by omega)) (zw _ _ _ _ _ _ _ (by omega))
theorem zb {α β:Type} {x:Option (PR α)} {k:α→List Tk→Option (PR β)} {p:β × List Tk} (h:zq x k=some (.ok p)):∃y us,x=some (.ok (y,us))∧k y us=some (.ok p):=by
 unfold zq at h
 cases x with
 | none=>cases h
 | some x =>
  cases x with
  | error a=>cases h
  | ok q=>exact ⟨q.1,q.2,rfl,h⟩
theorem Yr {ts:List Tk} (h:zj ts) (hk:(zx ts).k≠0):zj ts.tail:=by
 obtain ⟨t,us,rfl⟩:=h.cons;exact h.tail hk
theorem zT {ts:List Tk} {s:List UInt8} (h:zj ts) (hk:zn (zx ts) s=true):zj ts.tail:=Yr h (zl hk)
theorem Zt {s:List UInt8} {ts us:List Tk} {y:Unit} (h:Zf s ts=some (.ok (y,us))) (hE:zj ts):zj us:=by
 unfold Zf at h
 split at h
 ·rename_i hc
  simp only [Option.some.injEq,Except.ok.injEq,Prod.mk.injEq] at h;rw [←h.2];exact zT hE hc
 ·cases h
theorem yM {s:List UInt8} {ts us:List Tk} (h:Yg ts=some (.ok (s,us))) (hE:zj ts):zj us:=by
 unfold Yg at h
 split at h
 ·rename_i hc
  simp only [Option.some.injEq,Except.ok.injEq,Prod.mk.injEq] at h;rw [←h.2];exact Yr hE (by omega)
 ·cases h
theorem Zp {α:Type} {x y:α} {ts us:List Tk} (h:(some (.ok (x,ts)):Option (PR α))=some (.ok (y,us))) (hE:zj ts):zj us:=by
 simp only [Option.some.injEq,Except.ok.injEq,Prod.mk.injEq] at h;rw [←h.2];exact hE
theorem ZF (f:Nat) :
  (∀least ts x us,zk f least ts=some (.ok (x,us))→zj ts→zj us)∧(∀least e ts x us,Z5 f least e ts=some (.ok (x,us))→zj ts→zj us) ∧
  (∀ts x us,ZP f ts=some (.ok (x,us))→zj ts→zj us)∧(∀e ts x us,zN f e ts=some (.ok (x,us))→zj ts→zj us)∧(∀ts x us,Za f ts=some (.ok (x,us))→zj ts→zj us) ∧
  (∀pre ts x us,Yh f pre ts=some (.ok (x,us))→zj ts→zj us)∧(∀ts x us,zR f ts=some (.ok (x,us))→zj ts→zj us):=by
 induction f with
 | zero=>refine ⟨?_,?_,?_,?_,?_,?_,?_⟩ <;> intros <;> simp_all [zk,Z5,ZP,zN,Za,Yh,zR]
 | succ f ih =>
  obtain ⟨i1,i2,i3,i4,i5,i6,i7⟩:=ih;refine ⟨fun least ts x us h hE=>?_,fun least e ts x us h hE=>?_,fun ts x us h hE=>?_,fun e ts x us h hE=>?_,fun ts x us h hE=>?_,fun pre ts x us h hE=>?_,fun ts x us h hE=>?_⟩
  ·rw [zk] at h
   split at h
   ·exact i3 _ _ _ h hE
   ·obtain ⟨y,vs,h1,h2⟩:=zb h
    exact i2 _ _ _ _ _ h2 (i1 _ _ _ _ h1 hE)
  ·rw [Z5] at h
   split at h
   ·rename_i hc
    obtain ⟨y,vs,h1,h2⟩:=zb h;exact i2 _ _ _ _ _ h2 (i1 _ _ _ _ h1 (Yr hE (by omega)))
   ·exact Zp h hE
  ·rw [ZP] at h
   split at h
   ·rename_i hc
    obtain ⟨y,vs,h1,h2⟩:=zb h;exact Zp h2 (i3 _ _ _ h1 (Yr hE (by omega)))
   ·obtain ⟨y,vs,h1,h2⟩:=zb h
    exact i4 _ _ _ _ h2 (i5 _ _ _ h1 hE)
  ·rw [zN] at h
   split at h
   ·rename_i hc
    obtain ⟨y,vs,h1,h2⟩:=zb h;obtain ⟨z,xs,h3,h4⟩:=zb h2;exact i4 _ _ _ _ h4 (Zt h3 (i1 _ _ _ _ h1 (zT hE hc)))
   ·split at h
    ·rename_i hc
     obtain ⟨y,vs,h1,h2⟩:=zb h;exact i4 _ _ _ _ h2 (yM h1 (zT hE hc))
    ·exact Zp h hE
  ·rw [Za] at h
   split at h
   ·rename_i hc;exact Zp h (Yr hE (by omega))
   split at h
   ·rename_i hc;exact Zp h (Yr hE (by omega))
   split at h
   ·rename_i hc
    have hT:=Yr hE (by omega)
    split at h
    ·obtain ⟨y,vs,h1,h2⟩:=zb h
     exact Zp h2 (i7 _ _ _ h1 hT)
    ·exact Zp h hT
   split at h
   ·rename_i hc;exact Zp h (zT hE hc)
   split at h
   ·rename_i hc;exact Zp h (zT hE hc)
   split at h
   ·rename_i hc
    obtain ⟨y,vs,h1,h2⟩:=zb h;obtain ⟨z,xs,h3,h4⟩:=zb h2;exact Zp h4 (i7 _ _ _ h3 (yM h1 (zT hE hc)))
   split at h
   ·rename_i hc
    obtain ⟨y,vs,h1,h2⟩:=zb h;obtain ⟨z,xs,h3,h4⟩:=zb h2;exact Zp h4 (Zt h3 (i6 _ _ _ _ h1 (zT hE hc)))
   ·obtain ⟨y,vs,h1,h2⟩:=zb h
    obtain ⟨z,xs,h3,h4⟩:=zb h2;obtain ⟨z',xs',h5,h6⟩:=zb h4;exact Zp h6 (Zt h5 (i1 _ _ _ _ h3 (Zt h1 hE)))
  ·rw [Yh] at h
   obtain ⟨y,vs,h1,h2⟩:=zb h;have hV:=i1 _ _ _ _ h1 hE
   split at h2
   ·rename_i hc;exact i6 _ _ _ _ h2 (zT hV hc)
   ·exact Zp h2 hV
  ·rw [zR] at h
   obtain ⟨y,vs,h1,h2⟩:=zb h;have hV:=Zt h1 hE
   split at h2
   ·rename_i hc;exact Zp h2 (zT hV hc)
   ·obtain ⟨z,xs,h3,h4⟩:=zb h2
    obtain ⟨z',xs',h5,h6⟩:=zb h4;exact Zp h6 (Zt h5 (i6 _ _ _ _ h3 hV))
end Go.Proofs.YtpejpbbdgblbeaaGreatDoor
