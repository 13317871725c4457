import Derived.Test.YtdgpapchkpnijaaGreatDoorMC9
namespace Go.Proofs.YtdgpapchkpnijaaGreatDoor
open Go.RowKit Go.Shelf
set_option maxHeartbeats 16000000
set_option maxRecDepth 100000
def Ex.line:Ex→Nat | .mk _ _ _ _ l=>l
def Ex.kind:Ex→Nat | .mk k _ _ _ _=>k
def zz:List Tk→Tk | t::_=>t | []=>⟨0,[],0,0,0⟩
abbrev PR (α:Type):=Except Nat (α × List Tk)
def zn {α β:Type} (x:Option (PR α)) (k:α→List Tk→Option (PR β)):Option (PR β) :=
 match x with
 | none=>none
 | some (.error a)=>some (.error a)
 | some (.ok (y,ts))=>k y ts
def zV (s:List UInt8) (ts:List Tk):Option (PR Unit):=some (if zo (zz ts) s=true then .ok ((),ts.tail) else .error (zz ts).at0)
def yB (ts:List Tk):Option (PR (List UInt8)):=some (if (zz ts).k=1 then .ok ((zz ts).s,ts.tail) else .error (zz ts).at0)
mutual
def zh:Nat→Nat→List Tk→Option (PR Ex)
 | 0,_,_=>none
 | f+1,least,ts=>if 6<least then Zw f ts else zn (zh f (least+1) ts) fun e ts=>ZI f least e ts
def ZI:Nat→Nat→Ex→List Tk→Option (PR Ex)
 | 0,_,_,_=>none
 | f+1,least,e,ts=>if (zz ts).k=4∧levelOf (zz ts).s=least then zn (zh f (least+1) ts.tail) fun e2 ts'=>ZI f least (.mk 7 (zz ts).s 0 [e,e2] e.line) ts' else some (.ok (e,ts))
def Zw:Nat→List Tk→Option (PR Ex)
 | 0,_=>none
 | f+1,ts=>if (zz ts).k=4∧((zz ts).s=[45]∨(zz ts).s=[33]) then zn (Zw f ts.tail) fun e ts'=>some (.ok (.mk 6 (zz ts).s 0 [e] (zz ts).line,ts')) else zn (zP f ts) fun e ts=>zH f e ts
def zH:Nat→Ex→List Tk→Option (PR Ex)
 | 0,_,_=>none
 | f+1,e,ts =>
  if zo (zz ts) [91]=true then zn (zh f 1 ts.tail) fun i ts=>zn (zV [93] ts) fun _ ts=>zH f (.mk 8 [] 0 [e,i] e.line) ts
  else if zo (zz ts) [46]=true then zn (yB ts.tail) fun s ts=>zH f (.mk 9 s 0 [e] e.line) ts
  else some (.ok (e,ts))
def zP:Nat→List Tk→Option (PR Ex)
 | 0,_=>none
 | f+1,ts =>
  if (zz ts).k=2 then some (.ok (.mk 1 [] (zz ts).n [] (zz ts).line,ts.tail))
  else if (zz ts).k=3 then some (.ok (.mk 3 (zz ts).s 0 [] (zz ts).line,ts.tail))
  else if (zz ts).k=1 then
   if zo (zz ts.tail) [40]=true then zn (zK f ts.tail) fun l ts'=>some (.ok (.mk 5 (zz ts).s 0 l (zz ts).line,ts')) else some (.ok (.mk 4 (zz ts).s 0 [] (zz ts).line,ts.tail))
  else if zo (zz ts) [116,114,117,101]=true then some (.ok (.mk 2 [] 1 [] (zz ts).line,ts.tail))
  else if zo (zz ts) [102,97,108,115,101]=true then some (.ok (.mk 2 [] 0 [] (zz ts).line,ts.tail))
  else if zo (zz ts) [110,101,119]=true then zn (yB ts.tail) fun s ts'=>zn (zK f ts') fun l ts'=>some (.ok (.mk 11 s 0 l (zz ts).line,ts'))
  else if zo (zz ts) [91]=true then zn (yy f [] ts.tail) fun l ts'=>zn (zV [93] ts') fun _ ts'=>some (.ok (.mk 10 [] 0 l (zz ts).line,ts'))
  else zn (zV [40] ts) fun _ ts=>zn (zh f 1 ts) fun e ts=>zn (zV [41] ts) fun _ ts=>some (.ok (e,ts))
def yy:Nat→List Ex→List Tk→Option (PR (List Ex))
 | 0,_,_=>none
 | f+1,pre,ts=>zn (zh f 1 ts) fun e ts=>if zo (zz ts) [44]=true then yy f (pre++[e]) ts.tail else some (.ok (pre++[e],ts))
def zK:Nat→List Tk→Option (PR (List Ex))
 | 0,_=>none
 | f+1,ts=>zn (zV [40] ts) fun _ ts=>if zo (zz ts) [41]=true then some (.ok ([],ts.tail)) else zn (yy f [] ts) fun l ts=>zn (zV [41] ts) fun _ ts=>some (.ok (l,ts))
end
theorem zD {α β:Type} {x y:Option (PR α)} {k l:α→List Tk→Option (PR β)} {r:PR β} (h:zn x k=some r) (hx:∀r,x=some r→y=some r) (hk:∀a ts r,k a ts=some r→l a ts=some r):zn y l=some r:=by
 unfold zn at h ⊢
 cases x with
 | none=>cases h
 | some x =>
  rw [hx x rfl];cases x with
  | error a=>exact h
  | ok p=>exact hk _ _ _ h
theorem ur (f:Nat) :
  (∀least ts r,zh f least ts=some r→zh (f+1) least ts=some r)∧(∀least e ts r,ZI f least e ts=some r→ZI (f+1) least e ts=some r) ∧
  (∀ts r,Zw f ts=some r→Zw (f+1) ts=some r)∧(∀e ts r,zH f e ts=some r→zH (f+1) e ts=some r)∧(∀ts r,zP f ts=some r→zP (f+1) ts=some r) ∧
  (∀pre ts r,yy f pre ts=some r→yy (f+1) pre ts=some r)∧(∀ts r,zK f ts=some r→zK (f+1) ts=some r):=by
 induction f with
 | zero=>refine ⟨?_,?_,?_,?_,?_,?_,?_⟩ <;> intros <;> rename_i h <;> simp [zh,ZI,Zw,zH,zP,yy,zK] at h
 | succ f ih =>
  obtain ⟨i1,i2,i3,i4,i5,i6,i7⟩:=ih;refine ⟨fun least ts r h=>?_,fun least e ts r h=>?_,fun ts r h=>?_,fun e ts r h=>?_,fun ts r h=>?_,fun pre ts r h=>?_,fun ts r h=>?_⟩
  ·rw [zh] at h ⊢
   split at h
   ·rename_i hc;rw [if_pos hc];exact i3 _ _ h
   ·rename_i hc;rw [if_neg hc];exact zD h (i1 _ _) fun a ts r=>i2 _ _ _ _
  ·rw [ZI] at h ⊢
   split at h
   ·rename_i hc;rw [if_pos hc];exact zD h (i1 _ _) fun a ts r=>i2 _ _ _ _
   ·rename_i hc;rw [if_neg hc];exact h
  ·rw [Zw] at h ⊢
   split at h
   ·rename_i hc;rw [if_pos hc];exact zD h (i3 _) fun a ts r h=>h
   ·rename_i hc;rw [if_neg hc];exact zD h (i5 _) fun a ts r=>i4 _ _ _
  ·rw [zH] at h ⊢
   split at h
   ·rename_i hc;rw [if_pos hc];exact zD h (i1 _ _) fun a ts r h=>zD h (fun _ h=>h) fun a ts r=>i4 _ _ _
   ·rename_i hc;rw [if_neg hc]
    split at h
    ·rename_i hc;rw [if_pos hc];exact zD h (fun _ h=>h) fun a ts r=>i4 _ _ _
    ·rename_i hc;rw [if_neg hc];exact h
  ·rw [zP] at h ⊢
   repeat' split at h
   all_goals simp_all only [if_true,if_false,Bool.false_eq_true]
   all_goals first
    | exact h
    | exact zD h (i7 _) fun a ts r h=>h
    | exact zD h (fun _ h=>h) fun a ts r h=>zD h (i7 _) fun a ts r h=>h
    | exact zD h (i6 _ _) fun a ts r h=>zD h (fun _ h=>h) fun a ts r h=>h
    | exact zD h (fun _ h=>h) fun a ts r h=>zD h (i1 _ _) fun a ts r h=>zD h (fun _ h=>h) fun a ts r h=>h
  ·rw [yy] at h ⊢
   refine zD h (i1 _ _) fun a ts r h=>?_
   split at h
   ·rename_i hc;rw [if_pos hc];exact i6 _ _ _ h
   ·rename_i hc;rw [if_neg hc];exact h
  ·rw [zK] at h ⊢
   refine zD h (fun _ h=>h) fun a ts r h=>?_
   split at h
   ·rename_i hc;rw [if_pos hc];exact h
   ·rename_i hc;rw [if_neg hc];exact zD h (i6 _ _) fun a ts r h=>h
def NmT (t:Tk):Prop:=t.k=1→t.s.length≤1099511627776
def zk:List Tk→Prop
 | []=>False
 | [t]=>t.k=0
 | t::ts=>t.k≠0∧NmT t∧zk ts
theorem zk.ne {ts:List Tk} (h:zk ts):ts≠[]:=by cases ts <;> simp [zk] at h ⊢
theorem zk.tail {t:Tk} {ts:List Tk} (h:zk (t::ts)) (hk:t.k≠0):zk ts:=by
 cases ts with
 | nil=>exact absurd h hk
 | cons u us=>exact h.2.2
theorem zk.names {ts:List Tk} (h:zk ts):∀t∈ts,NmT t:=by
 induction ts with
 | nil=>intro t ht;cases ht
 | cons u us ih =>
  intro t ht;cases us with
  | nil =>
   simp only [List.mem_singleton] at ht;subst ht;intro hk;have h0:t.k=0:=h;omega
  | cons v vs =>
   rcases List.mem_cons.1 ht with rfl | ht
   ·exact h.2.1
   ·exact ih h.2.2 t ht
theorem zi {t:Tk} {s:List UInt8} (h:zo t s=true):t.k≠0:=by
 unfold zo at h
 intro hk
 simp [hk] at h
theorem zk.cons {ts:List Tk} (h:zk ts):∃t us,ts=t::us:=by
 cases ts with
 | nil=>exact absurd h (by simp [zk])
 | cons t us=>exact ⟨t,us,rfl⟩
theorem YH {f k least:Nat} {ts:List Tk} {r:PR Ex} (h:zh f least ts=some r):zh (f+k) least ts=some r:=by
 induction k with
 | zero=>exact h
 | succ k ih=>exact (ur (f+k)).1 _ _ _ ih
theorem xI {f f' least:Nat} {ts:List Tk} {r r':PR Ex} (h:zh f least ts=some r) (h':zh f' least ts=some r'):r=r':=by
 have a:=YH (k:=f') h;have b:=YH (k:=f) h';rw [Nat.add_comm] at b;exact Option.some.inj (a.symm.trans b)
def zG (S:Nat→Prop) (w:World) (l:List Ex) (v:Value):Prop :=
 (l=[]∧v=.slice none 0 0)∨∃(g cap:Nat) (us:List (List Value)),v=.slice (some ⟨g,0,none⟩) l.length cap∧l≠[]∧us.length=l.length∧S g∧g<w.heap.size∧l.length≤cap∧cap≤maxLen ∧
  (∀j u,us.flatten[j]?=some u→w.cell? ⟨g,j,none⟩=some u)∧(∀c∈us,c.length=5)∧∀(j:Nat) (x:Ex) (c:List Value),l[j]?=some x→us[j]?=some c→zQ S w x (.agg c.toArray)
abbrev Z9 (B:Nat) (w:World) (l:List Ex) (v:Value):Prop:=zG (fun k=>B≤k) w l v
theorem zG.kept {S:Nat→Prop} {w w':World} {l:List Ex} {v:Value} (h:zG S w l v) (hs:w.heap.size≤w'.heap.size) (hb:∀k,S k→k<w.heap.size→w'.heap[k]?=w.heap[k]?):zG S w' l v:=by
 rcases h with h | ⟨g,cap,us,hv,hne,hlen,hB,hg,hc,hm,hcell,hfive,hk⟩
 ·exact .inl h
 ·refine .inr ⟨g,cap,us,hv,hne,hlen,hB,Nat.lt_of_lt_of_le hg hs,hc,hm,fun j u hj=>?_,hfive,fun j x c hx hc'=>zQ.kept (hk j x c hx hc') hs hb⟩
  rw [World.cell?_of_block (hb g hB hg)];exact hcell j u hj
theorem zQ.of_row {S:Nat→Prop} {w:World} {l:List Ex} {v:Value} (h:zG S w l v) (k:Nat) (s:List UInt8) (n:Int) (line:Nat):zQ S w (.mk k s n l line) (.agg #[.int .i64 k,.string (za s),.int .i64 n,v,.int .i64 line]):=by
 rcases h with ⟨rfl,rfl⟩ | ⟨g,cap,us,rfl,hne,hlen,hB,hg,hc,hm,hcell,hfive,hk⟩
 ·exact .leaf k s n line
 ·exact .node k s n l line g cap us hne hlen hB hg hc hm hcell hfive hk
theorem zG.wide {S S':Nat→Prop} {w:World} {l:List Ex} {v:Value} (h:zG S w l v) (hS:∀k,S k→S' k):zG S' w l v:=by
 rcases h with h | ⟨g,cap,us,hv,hne,hlen,hB,hg,hc,hm,hcell,hfive,hk⟩
 ·exact .inl h
 ·exact .inr ⟨g,cap,us,hv,hne,hlen,hS _ hB,hg,hc,hm,hcell,hfive,fun j x c hx hc'=>zQ.wide (hk j x c hx hc') hS⟩
theorem Z9.kept {B:Nat} {w w':World} {l:List Ex} {v:Value} (h:Z9 B w l v) (hs:w.heap.size≤w'.heap.size) (hb:∀k,B≤k→k<w.heap.size→w'.heap[k]?=w.heap[k]?):Z9 B w' l v:=zG.kept h hs hb
theorem Zc.of_row {B:Nat} {w:World} {l:List Ex} {v:Value} (h:Z9 B w l v) (k:Nat) (s:List UInt8) (n:Int) (line:Nat):Zc B w (.mk k s n l line) (.agg #[.int .i64 k,.string (za s),.int .i64 n,v,.int .i64 line]):=zQ.of_row h k s n line
theorem Zc.mono {B B':Nat} {w:World} {x:Ex} {v:Value} (h:Zc B w x v) (hb:B'≤B):Zc B' w x v:=zQ.wide h fun _ hk=>Nat.le_trans hb hk
theorem Z9.mono {B B':Nat} {w:World} {l:List Ex} {v:Value} (h:Z9 B w l v) (hb:B'≤B):Z9 B' w l v:=zG.wide h fun _ hk=>Nat.le_trans hb hk
def zI (r g:Nat) (w:World) (res:PR Ex) (e:Ending) (w':World):Prop :=
 zb r w w'∧match res with
  | .error a=>e=ZF a
  | .ok (x,ts)=>∃v o cap,e=.returned v∧Zc w.heap.size w' x v∧zg r g o cap ts w'
def XZ (r g:Nat) (w:World) (res:PR (List Ex)) (e:Ending) (w':World):Prop :=
 zb r w w'∧match res with
  | .error a=>e=ZF a
  | .ok (l,ts)=>∃v o cap,e=.returned v∧Z9 w.heap.size w' l v∧zg r g o cap ts w'
theorem zb.cell {r:Nat} {w w':World} (h:zb r w w') {p:Addr} {v:Value} (hp:p.block≠r) (hc:w.cell? p=some v):w'.cell? p=some v:=by
 rw [World.cell?_of_block (h.block p.block (World.block_lt_of_cell? w _ hc) hp)];exact hc
abbrev set5 (w:World) (N:Nat) (a b c d e:Value):World:=((((w.setCell ⟨N,0,none⟩ a).setCell ⟨N,1,none⟩ b).setCell ⟨N,2,none⟩ c).setCell ⟨N,3,none⟩ d).setCell ⟨N,4,none⟩ e
theorem zt {w:World} {N:Nat} {x0 x1 x2 x3 x4:Value} {ty:TypeId} (h:w.heap[N]?=some (.cells #[x0,x1,x2,x3,x4] ty (0,0))) (a b c d e:Value) :
  (set5 w N a b c d e).cell? ⟨N,0,none⟩=some a∧(set5 w N a b c d e).cell? ⟨N,1,none⟩=some b∧(set5 w N a b c d e).cell? ⟨N,2,none⟩=some c∧(set5 w N a b c d e).cell? ⟨N,3,none⟩=some d∧(set5 w N a b c d e).cell? ⟨N,4,none⟩=some e:=by
 have q0:w.cell? ⟨N,0,none⟩=some x0:=by simp only [World.cell?,h];rfl
 have q1:w.cell? ⟨N,1,none⟩=some x1:=by simp only [World.cell?,h];rfl
 have q2:w.cell? ⟨N,2,none⟩=some x2:=by simp only [World.cell?,h];rfl
 have q3:w.cell? ⟨N,3,none⟩=some x3:=by simp only [World.cell?,h];rfl
 have q4:w.cell? ⟨N,4,none⟩=some x4:=by simp only [World.cell?,h];rfl
 refine ⟨?_,?_,?_,?_,?_⟩
 ·rw [World.cell?_setCell_other _ _ _ _ (by simp),World.cell?_setCell_other _ _ _ _ (by simp),World.cell?_setCell_other _ _ _ _ (by simp),World.cell?_setCell_other _ _ _ _ (by simp)]
  exact World.cell?_setCell_same _ _ _ q0
 ·rw [World.cell?_setCell_other _ _ _ _ (by simp),World.cell?_setCell_other _ _ _ _ (by simp),World.cell?_setCell_other _ _ _ _ (by simp)]
  exact World.cell?_setCell_same _ _ _ ((World.cell?_setCell_other _ _ _ _ (by simp)).trans q1)
 ·rw [World.cell?_setCell_other _ _ _ _ (by simp),World.cell?_setCell_other _ _ _ _ (by simp)]
  exact World.cell?_setCell_same _ _ _ ((World.cell?_setCell_other _ _ _ _ (by simp)).trans ((World.cell?_setCell_other _ _ _ _ (by simp)).trans q2))
 ·rw [World.cell?_setCell_other _ _ _ _ (by simp)]
  exact World.cell?_setCell_same _ _ _ ((World.cell?_setCell_other _ _ _ _ (by simp)).trans ((World.cell?_setCell_other _ _ _ _ (by simp)).trans ((World.cell?_setCell_other _ _ _ _ (by simp)).trans q3)))
 ·exact World.cell?_setCell_same _ _ _ ((World.cell?_setCell_other _ _ _ _ (by simp)).trans ((World.cell?_setCell_other _ _ _ _ (by simp)).trans ((World.cell?_setCell_other _ _ _ _ (by simp)).trans ((World.cell?_setCell_other _ _ _ _ (by simp)).trans q4))))
theorem zr (w:World) (N:Nat) (a b c d e:Value) {k:Nat} (hk:k≠N):(set5 w N a b c d e).heap[k]?=w.heap[k]?:=by
 rw [Below.heap_setCell _ _ _ _ (by simpa using hk),Below.heap_setCell _ _ _ _ (by simpa using hk),Below.heap_setCell _ _ _ _ (by simpa using hk),Below.heap_setCell _ _ _ _ (by simpa using hk),Below.heap_setCell _ _ _ _ (by simpa using hk)]
theorem ZM {r:Nat} {w0 w:World} {N:Nat} (h:zb r w0 w) (hN:w0.heap.size≤N) (a b c d e:Value):zb r w0 (set5 w N a b c d e):=by
 have hb:Below 0 w (set5 w N a b c d e):=(((((Below.refl 0 w).setCell (p:=⟨N,0,none⟩) (Nat.zero_le _) a).setCell (p:=⟨N,1,none⟩) (Nat.zero_le _) b).setCell (p:=⟨N,2,none⟩) (Nat.zero_le _) c).setCell (p:=⟨N,3,none⟩) (Nat.zero_le _) d).setCell (p:=⟨N,4,none⟩) (Nat.zero_le _) e;exact ⟨hb.os.trans h.os,hb.tape.trans h.tape,hb.output.trans h.output,Nat.le_trans h.size hb.size,fun k hk hr=>(zr w N a b c d e (by omega)).trans (h.block k hk hr)⟩
theorem Qi (r g o cap:Nat) (t u:Tk) (us:List Tk) (w:World) (h:zg r g o cap (t::u::us) w) (hk:t.k=1) (hu:zo u [40]=false) :
  Calls Tryz.prog 195 #[.pointer (some ⟨r,0,none⟩)] w (zI r g w (.ok (.mk 4 t.s 0 [] t.line,u::us))):=by
 have hf:=Y9;have hr:=h.lt.1;have hgw:=h.lt.2;have h0:=h.alloc (.cells #[.int .i64 0,.string ⟨#[]⟩,.int .i64 0,.slice none 0 0,.int .i64 0] 40);have ch:=ye r g o cap t (u::us) _ h0;obtain ⟨w2,hw2⟩:∃w2,w2=((w.alloc (.cells #[.int .i64 0,.string ⟨#[]⟩,.int .i64 0,.slice none 0 0,.int .i64 0] 40)).alloc (ZK t)).alloc (.cells #[.int .i64 4,.string ⟨#[]⟩,.int .i64 0,.slice none 0 0,.int .i64 t.line] 40):=⟨_,rfl⟩;have h2:zg r g o cap (t::u::us) w2:=by rw [hw2];exact (h0.alloc _).alloc _
 have HK2:Hid (zb r w w2):=by rw [hw2];exact (((zb.refl r w).alloc _).alloc _).alloc _
 have cn:=xe r g o cap t (u::us) w2 h2 (fun _=>by simp)
 simp only [hk,if_true] at cn;clear h h0 h2
 go_enter Tryz.func195,Tryz.ntmps195
 go_wp2_with fail
 refine ch.mono ?_;clear ch;rintro e w1 ⟨rfl,rfl⟩;simp only [Xc];go_wp2_with fail
 rw [←hw2];refine cn.mono ?_;clear cn;rintro e w3 ⟨hk3,rfl,h3⟩
 have n2:w2.heap[w.heap.size+1+1]?=some (.cells #[.int .i64 4,.string ⟨#[]⟩,.int .i64 0,.slice none 0 0,.int .i64 t.line] 40 (0,0)):=by
  have hx:=World.alloc_heap_new ((w.alloc (.cells #[.int .i64 0,.string ⟨#[]⟩,.int .i64 0,.slice none 0 0,.int .i64 0] 40)).alloc (ZK t)) (.cells #[.int .i64 4,.string ⟨#[]⟩,.int .i64 0,.slice none 0 0,.int .i64 t.line] 40);rw [←hw2,show ((w.alloc (.cells #[.int .i64 0,.string ⟨#[]⟩,.int .i64 0,.slice none 0 0,.int .i64 0] 40)).alloc (ZK t)).heap.size=w.heap.size+1+1 by simp] at hx
  exact hx
 have n0:w2.heap[w.heap.size]?=some (.cells #[.int .i64 0,.string ⟨#[]⟩,.int .i64 0,.slice none 0 0,.int .i64 0] 40 (0,0)):=by
  rw [hw2,Below.heap_alloc _ _ _ (by simp;omega),Below.heap_alloc _ _ _ (by simp)]
  exact World.alloc_heap_new _ _
 have n2':=(hk3.block _ (Array.getElem?_eq_some_iff.1 n2).1 (by omega)).trans n2
 have n0':=(hk3.block _ (Array.getElem?_eq_some_iff.1 n0).1 (by omega)).trans n0
 have HK3:Hid (zb r w w3):=HK2.out.trans hk3;clear n2 n0 hk3 hw2 HK2;have c0:w3.cell? ⟨w.heap.size+1+1,0,none⟩=some (.int .i64 4):=by simp only [World.cell?,n2'];rfl
 have c1:w3.cell? ⟨w.heap.size+1+1,1,none⟩=some (.string ⟨#[]⟩):=by simp only [World.cell?,n2'];rfl
 have c2:w3.cell? ⟨w.heap.size+1+1,2,none⟩=some (.int .i64 0):=by simp only [World.cell?,n2'];rfl
 have c3:w3.cell? ⟨w.heap.size+1+1,3,none⟩=some (.slice none 0 0):=by simp only [World.cell?,n2'];rfl
 have c4:w3.cell? ⟨w.heap.size+1+1,4,none⟩=some (.int .i64 t.line):=by simp only [World.cell?,n2'];rfl
 have cf:w3.frozen? ⟨w.heap.size+1+1,1,none⟩=false:=by simp only [World.frozen?,n2'];rfl
 obtain ⟨w4,hw4⟩:∃w4,w4=w3.setCell ⟨w.heap.size+1+1,1,none⟩ (.string (za t.s)):=⟨_,rfl⟩;have d0:w4.cell? ⟨w.heap.size+1+1,0,none⟩=some (.int .i64 4):=by rw [hw4,World.cell?_setCell_other _ _ _ _ (by simp)];exact c0
 have d1:w4.cell? ⟨w.heap.size+1+1,1,none⟩=some (.string (za t.s)):=by rw [hw4];exact World.cell?_setCell_same _ _ _ c1
 have d2:w4.cell? ⟨w.heap.size+1+1,2,none⟩=some (.int .i64 0):=by rw [hw4,World.cell?_setCell_other _ _ _ _ (by simp)];exact c2
 have d3:w4.cell? ⟨w.heap.size+1+1,3,none⟩=some (.slice none 0 0):=by rw [hw4,World.cell?_setCell_other _ _ _ _ (by simp)];exact c3
 have d4:w4.cell? ⟨w.heap.size+1+1,4,none⟩=some (.int .i64 t.line):=by rw [hw4,World.cell?_setCell_other _ _ _ _ (by simp)];exact c4
 have hkeep:∀k,k≠w.heap.size+1+1→w4.heap[k]?=w3.heap[k]?:=fun k hk=>by rw [hw4];exact Below.heap_setCell _ _ _ _ (by simpa using hk)
 have h4:zg r g (o+5) (cap-1) (u::us) w4:=h3.keep (hkeep r (by omega)) (hkeep g (by omega))
 have HK4:Hid (zb r w w4):=⟨by rw [hw4];exact HK3.out.os,by rw [hw4];exact HK3.out.tape,by rw [hw4];exact HK3.out.output,by rw [hw4];simpa using HK3.out.size,fun k hk hr=>(hkeep k (by omega)).trans (HK3.out.block k hk hr)⟩
 have m0':=(hkeep w.heap.size (by omega)).trans n0'
 have ci:=zdM r g (o+5) (cap-1) u us [40] w4 h4;rw [hu] at ci;have hw4':Hid (w3.setCell ⟨w.heap.size+1+1,1,none⟩ (.string (za t.s))=w4):=hw4.symm;obtain ⟨w5,hw5⟩:∃w5,w5=(w4.alloc (ZK u)).alloc (ZK u):=⟨_,rfl⟩;rw [←hw5] at ci;have HR5:Hid (zg r g (o+5) (cap-1) (u::us) w5):=by rw [hw5];exact (h4.alloc _).alloc _
 have HK5:Hid (zb r w w5):=by rw [hw5];exact (HK4.out.alloc _).alloc _
 have e0:w5.cell? ⟨w.heap.size+1+1,0,none⟩=some (.int .i64 4):=by rw [hw5];exact zj (zj d0 _) _
 have e1:w5.cell? ⟨w.heap.size+1+1,1,none⟩=some (.string (za t.s)):=by rw [hw5];exact zj (zj d1 _) _
 have e2:w5.cell? ⟨w.heap.size+1+1,2,none⟩=some (.int .i64 0):=by rw [hw5];exact zj (zj d2 _) _
 have e3:w5.cell? ⟨w.heap.size+1+1,3,none⟩=some (.slice none 0 0):=by rw [hw5];exact zj (zj d3 _) _
 have e4:w5.cell? ⟨w.heap.size+1+1,4,none⟩=some (.int .i64 t.line):=by rw [hw5];exact zj (zj d4 _) _
 have hl0:w.heap.size<w4.heap.size:=(Array.getElem?_eq_some_iff.1 m0').1
 have p0:w5.heap[w.heap.size]?=some (.cells #[.int .i64 0,.string ⟨#[]⟩,.int .i64 0,.slice none 0 0,.int .i64 0] 40 (0,0)):=by
  rw [hw5,Below.heap_alloc _ _ _ (by simp;omega),Below.heap_alloc _ _ _ hl0];exact m0'
 clear hw4 hkeep h3 h4 n2' n0' m0' HK3 HK4 d0 d1 d2 d3 d4 hw5 hl0;go_wp2_with fail
 rw [hw4'.out];refine ci.mono ?_;clear ci c0 c1 c2 c3 c4 cf;rintro e w6 ⟨rfl,rfl⟩;have q0:w6.cell? ⟨w.heap.size,0,none⟩=some (.int .i64 0):=by simp only [World.cell?,p0];rfl
 have q1:w6.cell? ⟨w.heap.size,1,none⟩=some (.string ⟨#[]⟩):=by simp only [World.cell?,p0];rfl
 have q2:w6.cell? ⟨w.heap.size,2,none⟩=some (.int .i64 0):=by simp only [World.cell?,p0];rfl
 have q3:w6.cell? ⟨w.heap.size,3,none⟩=some (.slice none 0 0):=by simp only [World.cell?,p0];rfl
 have q4:w6.cell? ⟨w.heap.size,4,none⟩=some (.int .i64 0):=by simp only [World.cell?,p0];rfl
 have qf:∀j,w6.frozen? ⟨w.heap.size,j,none⟩=false:=fun j=>by simp only [World.frozen?,p0];simp
 go_wp2
 obtain ⟨z0,z1,z2,z3,z4⟩:=zt p0 (.int .i64 4) (.string (za t.s)) (.int .i64 0) (.slice none 0 0) (.int .i64 t.line);refine bodyPost_ret (v:=.agg #[.int .i64 4,.string (za t.s),.int .i64 0,.slice none 0 0,.int .i64 t.line]) (by simp [results,Tryz.results195,go_sem,z0,z1,z2,z3,z4]) rfl ⟨ZM HK5.out (Nat.le_refl _) _ _ _ _ _,_,o+5,cap-1,rfl,.leaf 4 t.s 0 t.line,?_⟩
 exact HR5.out.keep (zr _ _ _ _ _ _ _ (by omega)) (zr _ _ _ _ _ _ _ (by omega))
def zbg (t:Tk):PR (List Ex)→PR Ex
 | .error a=>.error a
 | .ok (l,ts)=>.ok (.mk 5 t.s 0 l t.line,ts)
theorem zb.setOther {r:Nat} {w w':World} (h:zb r w w') {p:Addr} (hp:w.heap.size≤p.block) (v:Value):zb r w (w'.setCell p v):=by
 have hb:Below 0 w' (w'.setCell p v):=(Below.refl 0 w').setCell (p:=p) (Nat.zero_le _) v;exact ⟨hb.os.trans h.os,hb.tape.trans h.tape,hb.output.trans h.output,Nat.le_trans h.size hb.size,fun k hk hr=>(Below.heap_setCell _ _ _ _ (by omega)).trans (h.block k hk hr)⟩
theorem VU {w w':World} {p:Addr} (h:w'.heap[p.block]?=w.heap[p.block]?):w'.frozen? p=w.frozen? p:=by
 simp only [World.frozen?,h]
theorem zav (r g o cap:Nat) (t u:Tk) (us:List Tk) (w:World) (res:PR (List Ex)) (h:zg r g o cap (t::u::us) w) (hk:t.k=1) (hu:zo u [40]=true)
  (hbr:∀w1 o1 cap1,zg r g o1 cap1 (u::us) w1→zb r w w1→Calls Tryz.prog 196 #[.pointer (some ⟨r,0,none⟩),.func (.func 36) #[.pointer (some ⟨r,0,none⟩)] #[]] w1 (XZ r g w1 res)) :
  Calls Tryz.prog 195 #[.pointer (some ⟨r,0,none⟩)] w (zI r g w (zbg t res)):=by
 have hmf:∀(fn:Fn) (first cap:Array Value) (w:World),(Instr.makeFunc fn first cap).run Tryz.prog w=.ok (.func fn first cap) w:=fun _ _ _ _=>rfl
 generalize hres:zbg t res=res';have hf:=Y9;have hr:=h.lt.1;have hgw:=h.lt.2;have h0:=h.alloc (.cells #[.int .i64 0,.string ⟨#[]⟩,.int .i64 0,.slice none 0 0,.int .i64 0] 40);have ch:=ye r g o cap t (u::us) _ h0;obtain ⟨w2,hw2⟩:∃w2,w2=((w.alloc (.cells #[.int .i64 0,.string ⟨#[]⟩,.int .i64 0,.slice none 0 0,.int .i64 0] 40)).alloc (ZK t)).alloc (.cells #[.int .i64 4,.string ⟨#[]⟩,.int .i64 0,.slice none 0 0,.int .i64 t.line] 40):=⟨_,rfl⟩;have h2:zg r g o cap (t::u::us) w2:=by rw [hw2];exact (h0.alloc _).alloc _
 have HK2:Hid (zb r w w2):=by rw [hw2];exact (((zb.refl r w).alloc _).alloc _).alloc _
 have cn:=xe r g o cap t (u::us) w2 h2 (fun _=>by simp)
 simp only [hk,if_true] at cn;clear h h0 h2
 go_enter Tryz.func195,Tryz.ntmps195
 go_wp2_with fail
 refine ch.mono ?_;clear ch;rintro e w1 ⟨rfl,rfl⟩;simp only [Xc];go_wp2_with fail
 rw [←hw2];refine cn.mono ?_;clear cn;rintro e w3 ⟨hk3,rfl,h3⟩
 have n2:w2.heap[w.heap.size+1+1]?=some (.cells #[.int .i64 4,.string ⟨#[]⟩,.int .i64 0,.slice none 0 0,.int .i64 t.line] 40 (0,0)):=by
  have hx:=World.alloc_heap_new ((w.alloc (.cells #[.int .i64 0,.string ⟨#[]⟩,.int .i64 0,.slice none 0 0,.int .i64 0] 40)).alloc (ZK t)) (.cells #[.int .i64 4,.string ⟨#[]⟩,.int .i64 0,.slice none 0 0,.int .i64 t.line] 40);rw [←hw2,show ((w.alloc (.cells #[.int .i64 0,.string ⟨#[]⟩,.int .i64 0,.slice none 0 0,.int .i64 0] 40)).alloc (ZK t)).heap.size=w.heap.size+1+1 by simp] at hx
  exact hx
 have n0:w2.heap[w.heap.size]?=some (.cells #[.int .i64 0,.string ⟨#[]⟩,.int .i64 0,.slice none 0 0,.int .i64 0] 40 (0,0)):=by
  rw [hw2,Below.heap_alloc _ _ _ (by simp;omega),Below.heap_alloc _ _ _ (by simp)]
  exact World.alloc_heap_new _ _
 have n2':=(hk3.block _ (Array.getElem?_eq_some_iff.1 n2).1 (by omega)).trans n2
 have n0':=(hk3.block _ (Array.getElem?_eq_some_iff.1 n0).1 (by omega)).trans n0
 have HK3:Hid (zb r w w3):=HK2.out.trans hk3;clear n2 n0 hk3 hw2 HK2;have c0:w3.cell? ⟨w.heap.size+1+1,0,none⟩=some (.int .i64 4):=by simp only [World.cell?,n2'];rfl
 have c1:w3.cell? ⟨w.heap.size+1+1,1,none⟩=some (.string ⟨#[]⟩):=by simp only [World.cell?,n2'];rfl
 have c2:w3.cell? ⟨w.heap.size+1+1,2,none⟩=some (.int .i64 0):=by simp only [World.cell?,n2'];rfl
 have c3:w3.cell? ⟨w.heap.size+1+1,3,none⟩=some (.slice none 0 0):=by simp only [World.cell?,n2'];rfl
 have c4:w3.cell? ⟨w.heap.size+1+1,4,none⟩=some (.int .i64 t.line):=by simp only [World.cell?,n2'];rfl
 have cf:w3.frozen? ⟨w.heap.size+1+1,1,none⟩=false:=by simp only [World.frozen?,n2'];rfl
 obtain ⟨w4,hw4⟩:∃w4,w4=w3.setCell ⟨w.heap.size+1+1,1,none⟩ (.string (za t.s)):=⟨_,rfl⟩;have d0:w4.cell? ⟨w.heap.size+1+1,0,none⟩=some (.int .i64 4):=by rw [hw4,World.cell?_setCell_other _ _ _ _ (by simp)];exact c0
 have d1:w4.cell? ⟨w.heap.size+1+1,1,none⟩=some (.string (za t.s)):=by rw [hw4];exact World.cell?_setCell_same _ _ _ c1
 have d2:w4.cell? ⟨w.heap.size+1+1,2,none⟩=some (.int .i64 0):=by rw [hw4,World.cell?_setCell_other _ _ _ _ (by simp)];exact c2
 have d3:w4.cell? ⟨w.heap.size+1+1,3,none⟩=some (.slice none 0 0):=by rw [hw4,World.cell?_setCell_other _ _ _ _ (by simp)];exact c3
 have d4:w4.cell? ⟨w.heap.size+1+1,4,none⟩=some (.int .i64 t.line):=by rw [hw4,World.cell?_setCell_other _ _ _ _ (by simp)];exact c4
 have hkeep:∀k,k≠w.heap.size+1+1→w4.heap[k]?=w3.heap[k]?:=fun k hk=>by rw [hw4];exact Below.heap_setCell _ _ _ _ (by simpa using hk)
 have h4:zg r g (o+5) (cap-1) (u::us) w4:=h3.keep (hkeep r (by omega)) (hkeep g (by omega))
 have HK4:Hid (zb r w w4):=⟨by rw [hw4];exact HK3.out.os,by rw [hw4];exact HK3.out.tape,by rw [hw4];exact HK3.out.output,by rw [hw4];simpa using HK3.out.size,fun k hk hr=>(hkeep k (by omega)).trans (HK3.out.block k hk hr)⟩
 have m0':=(hkeep w.heap.size (by omega)).trans n0'
 have ci:=zdM r g (o+5) (cap-1) u us [40] w4 h4;rw [hu] at ci;have hw4':Hid (w3.setCell ⟨w.heap.size+1+1,1,none⟩ (.string (za t.s))=w4):=hw4.symm;obtain ⟨w5,hw5⟩:∃w5,w5=(w4.alloc (ZK u)).alloc (ZK u):=⟨_,rfl⟩;rw [←hw5] at ci;have HR5:Hid (zg r g (o+5) (cap-1) (u::us) w5):=by rw [hw5];exact (h4.alloc _).alloc _
 have HK5:Hid (zb r w w5):=by rw [hw5];exact (HK4.out.alloc _).alloc _
 have e0:w5.cell? ⟨w.heap.size+1+1,0,none⟩=some (.int .i64 4):=by rw [hw5];exact zj (zj d0 _) _
 have e1:w5.cell? ⟨w.heap.size+1+1,1,none⟩=some (.string (za t.s)):=by rw [hw5];exact zj (zj d1 _) _
 have e2:w5.cell? ⟨w.heap.size+1+1,2,none⟩=some (.int .i64 0):=by rw [hw5];exact zj (zj d2 _) _
 have e3:w5.cell? ⟨w.heap.size+1+1,3,none⟩=some (.slice none 0 0):=by rw [hw5];exact zj (zj d3 _) _
 have e4:w5.cell? ⟨w.heap.size+1+1,4,none⟩=some (.int .i64 t.line):=by rw [hw5];exact zj (zj d4 _) _
 have hl0:w.heap.size<w4.heap.size:=(Array.getElem?_eq_some_iff.1 m0').1
 have p0:w5.heap[w.heap.size]?=some (.cells #[.int .i64 0,.string ⟨#[]⟩,.int .i64 0,.slice none 0 0,.int .i64 0] 40 (0,0)):=by
  rw [hw5,Below.heap_alloc _ _ _ (by simp;omega),Below.heap_alloc _ _ _ hl0];exact m0'
 have m2':w5.frozen? ⟨w.heap.size+1+1,0,none⟩=false:=by
  have hf4:w4.frozen? ⟨w.heap.size+1+1,0,none⟩=false:=by rw [hw4,World.frozen?_setCell];simp only [World.frozen?,n2'];rfl
  have hb4:=World.block_lt_of_cell? w4 _ d0;rw [hw5];simp only [World.frozen?] at hf4 ⊢;rw [Below.heap_alloc _ _ _ (by simp;simp at hb4;omega),Below.heap_alloc _ _ _ hb4];exact hf4
 have m3':w5.frozen? ⟨w.heap.size+1+1,3,none⟩=false:=by
  have hf4:w4.frozen? ⟨w.heap.size+1+1,3,none⟩=false:=by rw [hw4,World.frozen?_setCell];simp only [World.frozen?,n2'];rfl
  have hb4:=World.block_lt_of_cell? w4 _ d0;rw [hw5];simp only [World.frozen?] at hf4 ⊢;rw [Below.heap_alloc _ _ _ (by simp;simp at hb4;omega),Below.heap_alloc _ _ _ hb4];exact hf4
 clear hw4 hkeep h3 h4 n2' n0' m0' HK3 HK4 d0 d1 d2 d3 d4 hw5 hl0;go_wp2_with fail
 rw [hw4'.out];refine ci.mono ?_;clear ci c0 c1 c2 c3 c4 cf;rintro e w6 ⟨rfl,rfl⟩;obtain ⟨w7,hw7⟩:∃w7,w7=w6.setCell ⟨w.heap.size+1+1,0,none⟩ (.int .i64 5):=⟨_,rfl⟩;have HW7:Hid (w6.setCell ⟨w.heap.size+1+1,0,none⟩ (.int .i64 5)=w7):=hw7.symm;have hkeep:∀k,k≠w.heap.size+1+1→w7.heap[k]?=w6.heap[k]?:=fun k hk=>by rw [hw7];exact Below.heap_setCell _ _ _ _ (by simpa using hk)
 have h7:zg r g (o+5) (cap-1) (u::us) w7:=HR5.out.keep (hkeep r (by omega)) (hkeep g (by omega))
 have k7:zb r w w7:=by rw [hw7];exact HK5.out.setOther (by simp;omega) _
 have HK7:Hid (zb r w w7):=k7;have cb:=hbr w7 _ _ h7 k7;have f0:w7.cell? ⟨w.heap.size+1+1,0,none⟩=some (.int .i64 5):=by rw [hw7];exact World.cell?_setCell_same _ _ _ e0
 have f1:w7.cell? ⟨w.heap.size+1+1,1,none⟩=some (.string (za t.s)):=by rw [hw7,World.cell?_setCell_other _ _ _ _ (by simp)];exact e1
 have f2:w7.cell? ⟨w.heap.size+1+1,2,none⟩=some (.int .i64 0):=by rw [hw7,World.cell?_setCell_other _ _ _ _ (by simp)];exact e2
 have f3:w7.cell? ⟨w.heap.size+1+1,3,none⟩=some (.slice none 0 0):=by rw [hw7,World.cell?_setCell_other _ _ _ _ (by simp)];exact e3
 have f4:w7.cell? ⟨w.heap.size+1+1,4,none⟩=some (.int .i64 t.line):=by rw [hw7,World.cell?_setCell_other _ _ _ _ (by simp)];exact e4
 have ff:w7.frozen? ⟨w.heap.size+1+1,3,none⟩=false:=by rw [hw7,World.frozen?_setCell];exact m3'
 have p7:=(hkeep w.heap.size (by omega)).trans p0
 clear hbr h7 k7 hw7 hkeep p0;go_wp2_with fail
 rw [HW7.out];refine cb.mono ?_;clear cb e0 e1 e2 e3 e4 m2' m3';rintro e w8 ⟨hk8,hpost⟩;subst hres;rcases res with a | ⟨l,ts⟩
 ·obtain rfl:=hpost
  exact ⟨rfl,HK7.out.trans hk8,rfl⟩
 ·obtain ⟨v,o8,cap8,rfl,hrow,hrd⟩:=hpost
  have hr7:r≠w.heap.size+1+1:=by omega
  have g0:=hk8.cell (p:=⟨w.heap.size+1+1,0,none⟩) (fun h=>hr7 h.symm) f0
  have g1:=hk8.cell (p:=⟨w.heap.size+1+1,1,none⟩) (fun h=>hr7 h.symm) f1
  have g2:=hk8.cell (p:=⟨w.heap.size+1+1,2,none⟩) (fun h=>hr7 h.symm) f2
  have g3:=hk8.cell (p:=⟨w.heap.size+1+1,3,none⟩) (fun h=>hr7 h.symm) f3
  have g4:=hk8.cell (p:=⟨w.heap.size+1+1,4,none⟩) (fun h=>hr7 h.symm) f4
  have gf:w8.frozen? ⟨w.heap.size+1+1,3,none⟩=false:=(VU (p:=⟨w.heap.size+1+1,3,none⟩) (hk8.block _ (World.block_lt_of_cell? w7 _ f3) (fun h=>hr7 h.symm))).trans ff
  have p8:=(hk8.block w.heap.size (Array.getElem?_eq_some_iff.1 p7).1 (by omega)).trans p7
  have HK8:Hid (zb r w w8):=HK7.out.trans hk8;have hN7:w.heap.size+1+1<w7.heap.size:=World.block_lt_of_cell? w7 _ f0;obtain ⟨w9,hw9⟩:∃w9,w9=w8.setCell ⟨w.heap.size+1+1,3,none⟩ v:=⟨_,rfl⟩;have HW9:Hid (w9=w8.setCell ⟨w.heap.size+1+1,3,none⟩ v):=hw9;have hkeep:∀k,k≠w.heap.size+1+1→w9.heap[k]?=w8.heap[k]?:=fun k hk=>by rw [hw9];exact Below.heap_setCell _ _ _ _ (by simpa using hk)
  have hsz9:w8.heap.size≤w9.heap.size:=by rw [hw9];simp
  have HRow:Hid (Z9 w7.heap.size w9 l v):=hrow.kept hsz9 fun k hB _=>hkeep k (by omega)
  have HRd:Hid (zg r g o8 cap8 ts w9):=hrd.keep (hkeep r (by omega)) (hkeep g (by omega))
  have HK9:Hid (zb r w w9):=by rw [hw9];exact HK8.out.setOther (by simp;omega) _
  have p9:=(hkeep w.heap.size (by omega)).trans p8
  have i0:w9.cell? ⟨w.heap.size+1+1,0,none⟩=some (.int .i64 5):=by rw [hw9,World.cell?_setCell_other _ _ _ _ (by simp)];exact g0
  have i1:w9.cell? ⟨w.heap.size+1+1,1,none⟩=some (.string (za t.s)):=by rw [hw9,World.cell?_setCell_other _ _ _ _ (by simp)];exact g1
  have i2:w9.cell? ⟨w.heap.size+1+1,2,none⟩=some (.int .i64 0):=by rw [hw9,World.cell?_setCell_other _ _ _ _ (by simp)];exact g2
  have i3:w9.cell? ⟨w.heap.size+1+1,3,none⟩=some v:=by rw [hw9];exact World.cell?_setCell_same _ _ _ g3
  have i4:w9.cell? ⟨w.heap.size+1+1,4,none⟩=some (.int .i64 t.line):=by rw [hw9,World.cell?_setCell_other _ _ _ _ (by simp)];exact g4
  have q0:w9.cell? ⟨w.heap.size,0,none⟩=some (.int .i64 0):=by simp only [World.cell?,p9];rfl
  have q1:w9.cell? ⟨w.heap.size,1,none⟩=some (.string ⟨#[]⟩):=by simp only [World.cell?,p9];rfl
  have q2:w9.cell? ⟨w.heap.size,2,none⟩=some (.int .i64 0):=by simp only [World.cell?,p9];rfl
  have q3:w9.cell? ⟨w.heap.size,3,none⟩=some (.slice none 0 0):=by simp only [World.cell?,p9];rfl
  have q4:w9.cell? ⟨w.heap.size,4,none⟩=some (.int .i64 0):=by simp only [World.cell?,p9];rfl
  have qf:∀j,w9.frozen? ⟨w.heap.size,j,none⟩=false:=fun j=>by simp only [World.frozen?,p9];simp
  have hnv:∃a n c,v=.slice a n c:=by
   rcases hrow with ⟨-,rfl⟩ | ⟨_,_,_,rfl,_⟩
   ·exact ⟨_,_,_,rfl⟩
   ·exact ⟨_,_,_,rfl⟩
  obtain ⟨va,vn,vc,rfl⟩:=hnv;clear hkeep hrow hrd f0 f1 f2 f3 f4 ff hk8 p8 g0 g1 g2 g4;have hw9':=hw9.symm;clear hw9;go_wp2
  obtain ⟨z0,z1,z2,z3,z4⟩:=zt p9 (.int .i64 5) (.string (za t.s)) (.int .i64 0) (.slice va vn vc) (.int .i64 t.line);refine bodyPost_ret (v:=.agg #[.int .i64 5,.string (za t.s),.int .i64 0,.slice va vn vc,.int .i64 t.line]) (by simp [results,Tryz.results195,go_sem,z0,z1,z2,z3,z4]) rfl ⟨ZM HK9.out (Nat.le_refl _) _ _ _ _ _,_,o8,cap8,rfl,?_,?_⟩
  ·have hrow:Z9 w7.heap.size (set5 w9 w.heap.size (.int .i64 5) (.string (za t.s)) (.int .i64 0) (.slice va vn vc) (.int .i64 t.line)) l (.slice va vn vc) :=
    HRow.out.kept (by simp) fun k hB _=>zr _ _ _ _ _ _ _ (by omega)
   exact Zc.of_row (hrow.mono (by omega)) 5 t.s 0 t.line
  ·exact HRd.out.keep (zr _ _ _ _ _ _ _ (by omega)) (zr _ _ _ _ _ _ _ (by omega))
theorem zQ.agg {S:Nat→Prop} {w:World} {x:Ex} {v:Value} (h:zQ S w x v):∃(a:Int) (b:ByteArray) (c:Int) (d0:Option Addr) (d1 d2:Nat) (e:Int),v=.agg #[.int .i64 a,.string b,.int .i64 c,.slice d0 d1 d2,.int .i64 e]:=by
 cases h with
 | leaf=>exact ⟨_,_,_,_,_,_,_,rfl⟩
 | node=>exact ⟨_,_,_,_,_,_,_,rfl⟩
abbrev Ze:Obj:=.cells #[.int .i64 0,.string ⟨#[]⟩,.int .i64 0,.slice none 0 0,.int .i64 0] 40
theorem zez (r g:Nat) (w:World) (res:PR Ex) (hr:r<w.heap.size) (hgw:g<w.heap.size)
  (hb:Calls Tryz.prog 74 #[.pointer (some ⟨r,0,none⟩),.int .i64 1] (w.alloc Ze) (zI r g (w.alloc Ze) res)) :
  Calls Tryz.prog 36 #[.pointer (some ⟨r,0,none⟩)] w (zI r g w res):=by
 go_enter Tryz.func36,Tryz.ntmps36
 go_wp2_with fail
 refine hb.mono ?_;clear hb;rintro e w1 ⟨hk1,hpost⟩;have hK:zb r w w1:=((zb.refl r w).alloc _).trans hk1;rcases res with a | ⟨x,ts⟩
 ·obtain rfl:=hpost
  exact ⟨rfl,hK,rfl⟩
 ·obtain ⟨v,o,cap,rfl,hx,hrd⟩:=hpost
  obtain ⟨a,b,c,d0,d1,d2,e,rfl⟩:=hx.agg;have hsz:(w.alloc Ze).heap.size=w.heap.size+1:=by simp
  have p0:w1.heap[w.heap.size]?=some Ze:=(hk1.block w.heap.size (by omega) (by omega)).trans (World.alloc_heap_new w _)
  have q0:w1.cell? ⟨w.heap.size,0,none⟩=some (.int .i64 0):=by simp only [World.cell?,p0];rfl
  have q1:w1.cell? ⟨w.heap.size,1,none⟩=some (.string ⟨#[]⟩):=by simp only [World.cell?,p0];rfl
  have q2:w1.cell? ⟨w.heap.size,2,none⟩=some (.int .i64 0):=by simp only [World.cell?,p0];rfl
  have q3:w1.cell? ⟨w.heap.size,3,none⟩=some (.slice none 0 0):=by simp only [World.cell?,p0];rfl
  have q4:w1.cell? ⟨w.heap.size,4,none⟩=some (.int .i64 0):=by simp only [World.cell?,p0];rfl
  have qf:∀j,w1.frozen? ⟨w.heap.size,j,none⟩=false:=fun j=>by simp only [World.frozen?,p0];simp
  have HX:Hid (Zc (w.alloc Ze).heap.size w1 x (.agg #[.int .i64 a,.string b,.int .i64 c,.slice d0 d1 d2,.int .i64 e])):=hx;have HR:Hid (zg r g o cap ts w1):=hrd;have HK:Hid (zb r w w1):=hK;clear hk1 hx hrd hK;go_wp2
  obtain ⟨z0,z1,z2,z3,z4⟩:=zt p0 (.int .i64 a) (.string b) (.int .i64 c) (.slice d0 d1 d2) (.int .i64 e);refine bodyPost_ret (v:=.agg #[.int .i64 a,.string b,.int .i64 c,.slice d0 d1 d2,.int .i64 e]) (by simp [results,Tryz.results36,go_sem,z0,z1,z2,z3,z4]) rfl ⟨ZM HK.out (Nat.le_refl _) _ _ _ _ _,_,o,cap,rfl,?_,?_⟩
  ·exact (HX.out.kept (w':=set5 w1 w.heap.size (.int .i64 a) (.string b) (.int .i64 c) (.slice d0 d1 d2) (.int .i64 e)) (by simp) fun k hB _=>zr _ _ _ _ _ _ _ (by omega)).mono (by omega)
  ·exact HR.out.keep (zr _ _ _ _ _ _ _ (by omega)) (zr _ _ _ _ _ _ _ (by omega))
theorem zd {α β:Type} {x:Option (PR α)} {k:α→List Tk→Option (PR β)} {p:β × List Tk} (h:zn x k=some (.ok p)):∃y us,x=some (.ok (y,us))∧k y us=some (.ok p):=by
 unfold zn at h
 cases x with
 | none=>cases h
 | some x =>
  cases x with
  | error a=>cases h
  | ok q=>exact ⟨q.1,q.2,rfl,h⟩
theorem yP {ts:List Tk} (h:zk ts) (hk:(zz ts).k≠0):zk ts.tail:=by
 obtain ⟨t,us,rfl⟩:=h.cons;exact h.tail hk
theorem zU {ts:List Tk} {s:List UInt8} (h:zk ts) (hk:zo (zz ts) s=true):zk ts.tail:=yP h (zi hk)
theorem Zj {s:List UInt8} {ts us:List Tk} {y:Unit} (h:zV s ts=some (.ok (y,us))) (hE:zk ts):zk us:=by
 unfold zV at h
 split at h
 ·rename_i hc
  simp only [Option.some.injEq,Except.ok.injEq,Prod.mk.injEq] at h;rw [←h.2];exact zU hE hc
 ·cases h
theorem y8 {s:List UInt8} {ts us:List Tk} (h:yB ts=some (.ok (s,us))) (hE:zk ts):zk us:=by
 unfold yB at h
 split at h
 ·rename_i hc
  simp only [Option.some.injEq,Except.ok.injEq,Prod.mk.injEq] at h;rw [←h.2];exact yP hE (by omega)
 ·cases h
theorem z8 {α:Type} {x y:α} {ts us:List Tk} (h:(some (.ok (x,ts)):Option (PR α))=some (.ok (y,us))) (hE:zk ts):zk us:=by
 simp only [Option.some.injEq,Except.ok.injEq,Prod.mk.injEq] at h;rw [←h.2];exact hE
theorem Zk (f:Nat) :
  (∀least ts x us,zh f least ts=some (.ok (x,us))→zk ts→zk us)∧(∀least e ts x us,ZI f least e ts=some (.ok (x,us))→zk ts→zk us) ∧
  (∀ts x us,Zw f ts=some (.ok (x,us))→zk ts→zk us)∧(∀e ts x us,zH f e ts=some (.ok (x,us))→zk ts→zk us)∧(∀ts x us,zP f ts=some (.ok (x,us))→zk ts→zk us) ∧
  (∀pre ts x us,yy f pre ts=some (.ok (x,us))→zk ts→zk us)∧(∀ts x us,zK f ts=some (.ok (x,us))→zk ts→zk us):=by
 induction f with
 | zero=>refine ⟨?_,?_,?_,?_,?_,?_,?_⟩ <;> intros <;> simp_all [zh,ZI,Zw,zH,zP,yy,zK]
 | succ f ih =>
  obtain ⟨i1,i2,i3,i4,i5,i6,i7⟩:=ih;refine ⟨fun least ts x us h hE=>?_,fun least e ts x us h hE=>?_,fun ts x us h hE=>?_,fun e ts x us h hE=>?_,fun ts x us h hE=>?_,fun pre ts x us h hE=>?_,fun ts x us h hE=>?_⟩
  ·rw [zh] at h
   split at h
   ·exact i3 _ _ _ h hE
   ·obtain ⟨y,vs,h1,h2⟩:=zd h
    exact i2 _ _ _ _ _ h2 (i1 _ _ _ _ h1 hE)
  ·rw [ZI] at h
   split at h
   ·rename_i hc
    obtain ⟨y,vs,h1,h2⟩:=zd h;exact i2 _ _ _ _ _ h2 (i1 _ _ _ _ h1 (yP hE (by omega)))
   ·exact z8 h hE
  ·rw [Zw] at h
   split at h
   ·rename_i hc
    obtain ⟨y,vs,h1,h2⟩:=zd h;exact z8 h2 (i3 _ _ _ h1 (yP hE (by omega)))
   ·obtain ⟨y,vs,h1,h2⟩:=zd h
    exact i4 _ _ _ _ h2 (i5 _ _ _ h1 hE)
  ·rw [zH] at h
   split at h
   ·rename_i hc
    obtain ⟨y,vs,h1,h2⟩:=zd h;obtain ⟨z,xs,h3,h4⟩:=zd h2;exact i4 _ _ _ _ h4 (Zj h3 (i1 _ _ _ _ h1 (zU hE hc)))
   ·split at h
    ·rename_i hc
     obtain ⟨y,vs,h1,h2⟩:=zd h;exact i4 _ _ _ _ h2 (y8 h1 (zU hE hc))
    ·exact z8 h hE
  ·rw [zP] at h
   split at h
   ·rename_i hc;exact z8 h (yP hE (by omega))
   split at h
   ·rename_i hc;exact z8 h (yP hE (by omega))
   split at h
   ·rename_i hc
    have hT:=yP hE (by omega)
    split at h
    ·obtain ⟨y,vs,h1,h2⟩:=zd h
     exact z8 h2 (i7 _ _ _ h1 hT)
    ·exact z8 h hT
   split at h
   ·rename_i hc;exact z8 h (zU hE hc)
   split at h
   ·rename_i hc;exact z8 h (zU hE hc)
   split at h
   ·rename_i hc
    obtain ⟨y,vs,h1,h2⟩:=zd h;obtain ⟨z,xs,h3,h4⟩:=zd h2;exact z8 h4 (i7 _ _ _ h3 (y8 h1 (zU hE hc)))
   split at h
   ·rename_i hc
    obtain ⟨y,vs,h1,h2⟩:=zd h;obtain ⟨z,xs,h3,h4⟩:=zd h2;exact z8 h4 (Zj h3 (i6 _ _ _ _ h1 (zU hE hc)))
   ·obtain ⟨y,vs,h1,h2⟩:=zd h
    obtain ⟨z,xs,h3,h4⟩:=zd h2;obtain ⟨z',xs',h5,h6⟩:=zd h4;exact z8 h6 (Zj h5 (i1 _ _ _ _ h3 (Zj h1 hE)))
  ·rw [yy] at h
   obtain ⟨y,vs,h1,h2⟩:=zd h;have hV:=i1 _ _ _ _ h1 hE
   split at h2
   ·rename_i hc;exact i6 _ _ _ _ h2 (zU hV hc)
   ·exact z8 h2 hV
  ·rw [zK] at h
   obtain ⟨y,vs,h1,h2⟩:=zd h;have hV:=Zj h1 hE
   split at h2
   ·rename_i hc;exact z8 h2 (zU hV hc)
   ·obtain ⟨z,xs,h3,h4⟩:=zd h2
    obtain ⟨z',xs',h5,h6⟩:=zd h4;exact z8 h6 (Zj h5 (i6 _ _ _ _ h3 hV))
end Go.Proofs.YtdgpapchkpnijaaGreatDoor
