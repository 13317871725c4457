import Derived.Test.YtghhamgealkodaaGreatDoorMC9
namespace Go.Proofs.YtghhamgealkodaaGreatDoor
open Go.RowKit Go.Shelf
set_option maxRecDepth 100000
def Ex.line:Ex→Nat | .mk _ _ _ _ l=>l
def Ex.kind:Ex→Nat | .mk k _ _ _ _=>k
def hdT:List Tk→Tk | t::_=>t | []=>⟨0,[],0,0,0⟩
abbrev PR (α:Type):=Except Nat (α × List Tk)
def thenP {α β:Type} (x:Option (PR α)) (k:α→List Tk→Option (PR β)):Option (PR β) :=
 match x with
 | none=>none
 | some (.error a)=>some (.error a)
 | some (.ok (y,ts))=>k y ts
def needP (s:List UInt8) (ts:List Tk):Option (PR Unit):=some (if isTk (hdT ts) s=true then .ok ((),ts.tail) else .error (hdT ts).at0)
def nameP (ts:List Tk):Option (PR (List UInt8)):=some (if (hdT ts).k=1 then .ok ((hdT ts).s,ts.tail) else .error (hdT ts).at0)
mutual
def pBetween:Nat→Nat→List Tk→Option (PR Ex)
 | 0,_,_=>none
 | f+1,least,ts=>if 6<least then pUnary f ts else thenP (pBetween f (least+1) ts) fun e ts=>pMore f least e ts
def pMore:Nat→Nat→Ex→List Tk→Option (PR Ex)
 | 0,_,_,_=>none
 | f+1,least,e,ts=>if (hdT ts).k=4∧levelOf (hdT ts).s=least then thenP (pBetween f (least+1) ts.tail) fun e2 ts'=>pMore f least (.mk 7 (hdT ts).s 0 [e,e2] e.line) ts' else some (.ok (e,ts))
def pUnary:Nat→List Tk→Option (PR Ex)
 | 0,_=>none
 | f+1,ts=>if (hdT ts).k=4∧((hdT ts).s=[45]∨(hdT ts).s=[33]) then thenP (pUnary f ts.tail) fun e ts'=>some (.ok (.mk 6 (hdT ts).s 0 [e] (hdT ts).line,ts')) else thenP (pSingle f ts) fun e ts=>pBehind f e ts
def pBehind:Nat→Ex→List Tk→Option (PR Ex)
 | 0,_,_=>none
 | f+1,e,ts =>
  if isTk (hdT ts) [91]=true then thenP (pBetween f 1 ts.tail) fun i ts=>thenP (needP [93] ts) fun _ ts=>pBehind f (.mk 8 [] 0 [e,i] e.line) ts
  else if isTk (hdT ts) [46]=true then thenP (nameP ts.tail) fun s ts=>pBehind f (.mk 9 s 0 [e] e.line) ts
  else some (.ok (e,ts))
def pSingle:Nat→List Tk→Option (PR Ex)
 | 0,_=>none
 | f+1,ts =>
  if (hdT ts).k=2 then some (.ok (.mk 1 [] (hdT ts).n [] (hdT ts).line,ts.tail))
  else if (hdT ts).k=3 then some (.ok (.mk 3 (hdT ts).s 0 [] (hdT ts).line,ts.tail))
  else if (hdT ts).k=1 then
   if isTk (hdT ts.tail) [40]=true then thenP (pBrackets f ts.tail) fun l ts'=>some (.ok (.mk 5 (hdT ts).s 0 l (hdT ts).line,ts')) else some (.ok (.mk 4 (hdT ts).s 0 [] (hdT ts).line,ts.tail))
  else if isTk (hdT ts) [116,114,117,101]=true then some (.ok (.mk 2 [] 1 [] (hdT ts).line,ts.tail))
  else if isTk (hdT ts) [102,97,108,115,101]=true then some (.ok (.mk 2 [] 0 [] (hdT ts).line,ts.tail))
  else if isTk (hdT ts) [110,101,119]=true then thenP (nameP ts.tail) fun s ts'=>thenP (pBrackets f ts') fun l ts'=>some (.ok (.mk 11 s 0 l (hdT ts).line,ts'))
  else if isTk (hdT ts) [91]=true then thenP (pRow f [] ts.tail) fun l ts'=>thenP (needP [93] ts') fun _ ts'=>some (.ok (.mk 10 [] 0 l (hdT ts).line,ts'))
  else thenP (needP [40] ts) fun _ ts=>thenP (pBetween f 1 ts) fun e ts=>thenP (needP [41] ts) fun _ ts=>some (.ok (e,ts))
def pRow:Nat→List Ex→List Tk→Option (PR (List Ex))
 | 0,_,_=>none
 | f+1,pre,ts=>thenP (pBetween f 1 ts) fun e ts=>if isTk (hdT ts) [44]=true then pRow f (pre++[e]) ts.tail else some (.ok (pre++[e],ts))
def pBrackets:Nat→List Tk→Option (PR (List Ex))
 | 0,_=>none
 | f+1,ts=>thenP (needP [40] ts) fun _ ts=>if isTk (hdT ts) [41]=true then some (.ok ([],ts.tail)) else thenP (pRow f [] ts) fun l ts=>thenP (needP [41] ts) fun _ ts=>some (.ok (l,ts))
end
theorem thenP_mono {α β:Type} {x y:Option (PR α)} {k l:α→List Tk→Option (PR β)} {r:PR β} (h:thenP x k=some r) (hx:∀r,x=some r→y=some r) (hk:∀a ts r,k a ts=some r→l a ts=some r):thenP y l=some r:=by
 unfold thenP at h ⊢
 cases x with
 | none=>cases h
 | some x =>
  rw [hx x rfl]
  cases x with
  | error a=>exact h
  | ok p=>exact hk _ _ _ h
theorem parse_mono (f:Nat) :
  (∀least ts r,pBetween f least ts=some r→pBetween (f+1) least ts=some r)∧(∀least e ts r,pMore f least e ts=some r→pMore (f+1) least e ts=some r) ∧
  (∀ts r,pUnary f ts=some r→pUnary (f+1) ts=some r)∧(∀e ts r,pBehind f e ts=some r→pBehind (f+1) e ts=some r)∧(∀ts r,pSingle f ts=some r→pSingle (f+1) ts=some r) ∧
  (∀pre ts r,pRow f pre ts=some r→pRow (f+1) pre ts=some r)∧(∀ts r,pBrackets f ts=some r→pBrackets (f+1) ts=some r):=by
 induction f with
 | zero=>refine ⟨?_,?_,?_,?_,?_,?_,?_⟩ <;> intros <;> rename_i h <;> simp [pBetween,pMore,pUnary,pBehind,pSingle,pRow,pBrackets] at h
 | succ f ih =>
  obtain ⟨i1,i2,i3,i4,i5,i6,i7⟩:=ih
  refine ⟨fun least ts r h=>?_,fun least e ts r h=>?_,fun ts r h=>?_,fun e ts r h=>?_,fun ts r h=>?_,fun pre ts r h=>?_,fun ts r h=>?_⟩
  ·rw [pBetween] at h ⊢
   split at h
   ·rename_i hc;rw [if_pos hc];exact i3 _ _ h
   ·rename_i hc;rw [if_neg hc];exact thenP_mono h (i1 _ _) fun a ts r=>i2 _ _ _ _
  ·rw [pMore] at h ⊢
   split at h
   ·rename_i hc;rw [if_pos hc];exact thenP_mono h (i1 _ _) fun a ts r=>i2 _ _ _ _
   ·rename_i hc;rw [if_neg hc];exact h
  ·rw [pUnary] at h ⊢
   split at h
   ·rename_i hc;rw [if_pos hc];exact thenP_mono h (i3 _) fun a ts r h=>h
   ·rename_i hc;rw [if_neg hc];exact thenP_mono h (i5 _) fun a ts r=>i4 _ _ _
  ·rw [pBehind] at h ⊢
   split at h
   ·rename_i hc;rw [if_pos hc];exact thenP_mono h (i1 _ _) fun a ts r h=>thenP_mono h (fun _ h=>h) fun a ts r=>i4 _ _ _
   ·rename_i hc;rw [if_neg hc]
    split at h
    ·rename_i hc;rw [if_pos hc];exact thenP_mono h (fun _ h=>h) fun a ts r=>i4 _ _ _
    ·rename_i hc;rw [if_neg hc];exact h
  ·rw [pSingle] at h ⊢
   repeat' split at h
   all_goals simp_all only [if_true,if_false,Bool.false_eq_true]
   all_goals first
    | exact h
    | exact thenP_mono h (i7 _) fun a ts r h=>h
    | exact thenP_mono h (fun _ h=>h) fun a ts r h=>thenP_mono h (i7 _) fun a ts r h=>h
    | exact thenP_mono h (i6 _ _) fun a ts r h=>thenP_mono h (fun _ h=>h) fun a ts r h=>h
    | exact thenP_mono h (fun _ h=>h) fun a ts r h=>thenP_mono h (i1 _ _) fun a ts r h=>thenP_mono h (fun _ h=>h) fun a ts r h=>h
  ·rw [pRow] at h ⊢
   refine thenP_mono h (i1 _ _) fun a ts r h=>?_
   split at h
   ·rename_i hc;rw [if_pos hc];exact i6 _ _ _ h
   ·rename_i hc;rw [if_neg hc];exact h
  ·rw [pBrackets] at h ⊢
   refine thenP_mono h (fun _ h=>h) fun a ts r h=>?_
   split at h
   ·rename_i hc;rw [if_pos hc];exact h
   ·rename_i hc;rw [if_neg hc];exact thenP_mono h (i6 _ _) fun a ts r h=>h
def NmT (t:Tk):Prop:=t.k=1→t.s.length≤1099511627776
def EndsT:List Tk→Prop
 | []=>False
 | [t]=>t.k=0
 | t::ts=>t.k≠0∧NmT t∧EndsT ts
theorem EndsT.ne {ts:List Tk} (h:EndsT ts):ts≠[]:=by cases ts <;> simp [EndsT] at h ⊢
theorem EndsT.tail {t:Tk} {ts:List Tk} (h:EndsT (t::ts)) (hk:t.k≠0):EndsT ts:=by
 cases ts with
 | nil=>exact absurd h hk
 | cons u us=>exact h.2.2
theorem EndsT.names {ts:List Tk} (h:EndsT ts):∀t∈ts,NmT t:=by
 induction ts with
 | nil=>intro t ht;cases ht
 | cons u us ih =>
  intro t ht
  cases us with
  | nil =>
   simp only [List.mem_singleton] at ht
   subst ht
   intro hk
   have h0:t.k=0:=h
   omega
  | cons v vs =>
   rcases List.mem_cons.1 ht with rfl | ht
   ·exact h.2.1
   ·exact ih h.2.2 t ht
theorem isTk_kind {t:Tk} {s:List UInt8} (h:isTk t s=true):t.k≠0:=by
 unfold isTk at h
 intro hk
 simp [hk] at h
theorem EndsT.cons {ts:List Tk} (h:EndsT ts):∃t us,ts=t::us:=by
 cases ts with
 | nil=>exact absurd h (by simp [EndsT])
 | cons t us=>exact ⟨t,us,rfl⟩
theorem pBetween_up {f k least:Nat} {ts:List Tk} {r:PR Ex} (h:pBetween f least ts=some r):pBetween (f+k) least ts=some r:=by
 induction k with
 | zero=>exact h
 | succ k ih=>exact (parse_mono (f+k)).1 _ _ _ ih
theorem pBetween_same {f f' least:Nat} {ts:List Tk} {r r':PR Ex} (h:pBetween f least ts=some r) (h':pBetween f' least ts=some r'):r=r':=by
 have a:=pBetween_up (k:=f') h
 have b:=pBetween_up (k:=f) h'
 rw [Nat.add_comm] at b
 exact Option.some.inj (a.symm.trans b)
def RowIn (S:Nat→Prop) (w:World) (l:List Ex) (v:Value):Prop :=
 (l=[]∧v=.slice none 0 0)∨∃(g cap:Nat) (us:List (List Value)),v=.slice (some ⟨g,0,none⟩) l.length cap∧l≠[]∧us.length=l.length∧S g∧g<w.heap.size∧l.length≤cap∧cap≤maxLen ∧
  (∀j u,us.flatten[j]?=some u→w.cell? ⟨g,j,none⟩=some u)∧(∀c∈us,c.length=5)∧∀(j:Nat) (x:Ex) (c:List Value),l[j]?=some x→us[j]?=some c→ExIn S w x (.agg c.toArray)
abbrev RowAt (B:Nat) (w:World) (l:List Ex) (v:Value):Prop:=RowIn (fun k=>B≤k) w l v
theorem RowIn.kept {S:Nat→Prop} {w w':World} {l:List Ex} {v:Value} (h:RowIn S w l v) (hs:w.heap.size≤w'.heap.size) (hb:∀k,S k→k<w.heap.size→w'.heap[k]?=w.heap[k]?):RowIn S w' l v:=by
 rcases h with h | ⟨g,cap,us,hv,hne,hlen,hB,hg,hc,hm,hcell,hfive,hk⟩
 ·exact .inl h
 ·refine .inr ⟨g,cap,us,hv,hne,hlen,hB,Nat.lt_of_lt_of_le hg hs,hc,hm,fun j u hj=>?_,hfive,fun j x c hx hc'=>ExIn.kept (hk j x c hx hc') hs hb⟩
  rw [World.cell?_of_block (hb g hB hg)];exact hcell j u hj
theorem ExIn.of_row {S:Nat→Prop} {w:World} {l:List Ex} {v:Value} (h:RowIn S w l v) (k:Nat) (s:List UInt8) (n:Int) (line:Nat):ExIn S w (.mk k s n l line) (.agg #[.int .i64 k,.string (strB s),.int .i64 n,v,.int .i64 line]):=by
 rcases h with ⟨rfl,rfl⟩ | ⟨g,cap,us,rfl,hne,hlen,hB,hg,hc,hm,hcell,hfive,hk⟩
 ·exact .leaf k s n line
 ·exact .node k s n l line g cap us hne hlen hB hg hc hm hcell hfive hk
theorem RowIn.wide {S S':Nat→Prop} {w:World} {l:List Ex} {v:Value} (h:RowIn S w l v) (hS:∀k,S k→S' k):RowIn S' w l v:=by
 rcases h with h | ⟨g,cap,us,hv,hne,hlen,hB,hg,hc,hm,hcell,hfive,hk⟩
 ·exact .inl h
 ·exact .inr ⟨g,cap,us,hv,hne,hlen,hS _ hB,hg,hc,hm,hcell,hfive,fun j x c hx hc'=>ExIn.wide (hk j x c hx hc') hS⟩
theorem RowAt.kept {B:Nat} {w w':World} {l:List Ex} {v:Value} (h:RowAt B w l v) (hs:w.heap.size≤w'.heap.size) (hb:∀k,B≤k→k<w.heap.size→w'.heap[k]?=w.heap[k]?):RowAt B w' l v:=RowIn.kept h hs hb
theorem ExAt.of_row {B:Nat} {w:World} {l:List Ex} {v:Value} (h:RowAt B w l v) (k:Nat) (s:List UInt8) (n:Int) (line:Nat):ExAt B w (.mk k s n l line) (.agg #[.int .i64 k,.string (strB s),.int .i64 n,v,.int .i64 line]):=ExIn.of_row h k s n line
theorem ExAt.mono {B B':Nat} {w:World} {x:Ex} {v:Value} (h:ExAt B w x v) (hb:B'≤B):ExAt B' w x v:=ExIn.wide h fun _ hk=>Nat.le_trans hb hk
theorem RowAt.mono {B B':Nat} {w:World} {l:List Ex} {v:Value} (h:RowAt B w l v) (hb:B'≤B):RowAt B' w l v:=RowIn.wide h fun _ hk=>Nat.le_trans hb hk
def PostE (r g:Nat) (w:World) (res:PR Ex) (e:Ending) (w':World):Prop :=
 Kept r w w'∧match res with
  | .error a=>e=gaveUp a
  | .ok (x,ts)=>∃v o cap,e=.returned v∧ExAt w.heap.size w' x v∧RdAt r g o cap ts w'
def PostL (r g:Nat) (w:World) (res:PR (List Ex)) (e:Ending) (w':World):Prop :=
 Kept r w w'∧match res with
  | .error a=>e=gaveUp a
  | .ok (l,ts)=>∃v o cap,e=.returned v∧RowAt w.heap.size w' l v∧RdAt r g o cap ts w'
theorem Kept.cell {r:Nat} {w w':World} (h:Kept r w w') {p:Addr} {v:Value} (hp:p.block≠r) (hc:w.cell? p=some v):w'.cell? p=some v:=by
 rw [World.cell?_of_block (h.block p.block (World.block_lt_of_cell? w _ hc) hp)];exact hc
abbrev set5 (w:World) (N:Nat) (a b c d e:Value):World:=((((w.setCell ⟨N,0,none⟩ a).setCell ⟨N,1,none⟩ b).setCell ⟨N,2,none⟩ c).setCell ⟨N,3,none⟩ d).setCell ⟨N,4,none⟩ e
theorem set5_cells {w:World} {N:Nat} {x0 x1 x2 x3 x4:Value} {ty:TypeId} (h:w.heap[N]?=some (.cells #[x0,x1,x2,x3,x4] ty (0,0))) (a b c d e:Value) :
  (set5 w N a b c d e).cell? ⟨N,0,none⟩=some a∧(set5 w N a b c d e).cell? ⟨N,1,none⟩=some b∧(set5 w N a b c d e).cell? ⟨N,2,none⟩=some c∧(set5 w N a b c d e).cell? ⟨N,3,none⟩=some d∧(set5 w N a b c d e).cell? ⟨N,4,none⟩=some e:=by
 have q0:w.cell? ⟨N,0,none⟩=some x0:=by simp only [World.cell?,h];rfl
 have q1:w.cell? ⟨N,1,none⟩=some x1:=by simp only [World.cell?,h];rfl
 have q2:w.cell? ⟨N,2,none⟩=some x2:=by simp only [World.cell?,h];rfl
 have q3:w.cell? ⟨N,3,none⟩=some x3:=by simp only [World.cell?,h];rfl
 have q4:w.cell? ⟨N,4,none⟩=some x4:=by simp only [World.cell?,h];rfl
 refine ⟨?_,?_,?_,?_,?_⟩
 ·rw [World.cell?_setCell_other _ _ _ _ (by simp),World.cell?_setCell_other _ _ _ _ (by simp),World.cell?_setCell_other _ _ _ _ (by simp),World.cell?_setCell_other _ _ _ _ (by simp)]
  exact World.cell?_setCell_same _ _ _ q0
 ·rw [World.cell?_setCell_other _ _ _ _ (by simp),World.cell?_setCell_other _ _ _ _ (by simp),World.cell?_setCell_other _ _ _ _ (by simp)]
  exact World.cell?_setCell_same _ _ _ ((World.cell?_setCell_other _ _ _ _ (by simp)).trans q1)
 ·rw [World.cell?_setCell_other _ _ _ _ (by simp),World.cell?_setCell_other _ _ _ _ (by simp)]
  exact World.cell?_setCell_same _ _ _ ((World.cell?_setCell_other _ _ _ _ (by simp)).trans ((World.cell?_setCell_other _ _ _ _ (by simp)).trans q2))
 ·rw [World.cell?_setCell_other _ _ _ _ (by simp)]
  exact World.cell?_setCell_same _ _ _ ((World.cell?_setCell_other _ _ _ _ (by simp)).trans ((World.cell?_setCell_other _ _ _ _ (by simp)).trans ((World.cell?_setCell_other _ _ _ _ (by simp)).trans q3)))
 ·exact World.cell?_setCell_same _ _ _ ((World.cell?_setCell_other _ _ _ _ (by simp)).trans ((World.cell?_setCell_other _ _ _ _ (by simp)).trans ((World.cell?_setCell_other _ _ _ _ (by simp)).trans ((World.cell?_setCell_other _ _ _ _ (by simp)).trans q4))))
theorem set5_keep (w:World) (N:Nat) (a b c d e:Value) {k:Nat} (hk:k≠N):(set5 w N a b c d e).heap[k]?=w.heap[k]?:=by
 rw [Below.heap_setCell _ _ _ _ (by simpa using hk),Below.heap_setCell _ _ _ _ (by simpa using hk),Below.heap_setCell _ _ _ _ (by simpa using hk),Below.heap_setCell _ _ _ _ (by simpa using hk),Below.heap_setCell _ _ _ _ (by simpa using hk)]
theorem set5_kept {r:Nat} {w0 w:World} {N:Nat} (h:Kept r w0 w) (hN:w0.heap.size≤N) (a b c d e:Value):Kept r w0 (set5 w N a b c d e):=by
 have hb:Below 0 w (set5 w N a b c d e):=(((((Below.refl 0 w).setCell (p:=⟨N,0,none⟩) (Nat.zero_le _) a).setCell (p:=⟨N,1,none⟩) (Nat.zero_le _) b).setCell (p:=⟨N,2,none⟩) (Nat.zero_le _) c).setCell (p:=⟨N,3,none⟩) (Nat.zero_le _) d).setCell (p:=⟨N,4,none⟩) (Nat.zero_le _) e
 exact ⟨hb.os.trans h.os,hb.tape.trans h.tape,hb.output.trans h.output,Nat.le_trans h.size hb.size,fun k hk hr=>(set5_keep w N a b c d e (by omega)).trans (h.block k hk hr)⟩
set_option maxHeartbeats 4000000 in
theorem rdNameAlone (r g o cap:Nat) (t u:Tk) (us:List Tk) (w:World) (h:RdAt r g o cap (t::u::us) w) (hk:t.k=1) (hu:isTk u [40]=false) :
  Calls Tryz.prog 195 #[.pointer (some ⟨r,0,none⟩)] w (PostE r g w (.ok (.mk 4 t.s 0 [] t.line,u::us))):=by
 have hf:=field_line
 have hr:=h.lt.1
 have hgw:=h.lt.2
 have h0:=h.alloc (.cells #[.int .i64 0,.string ⟨#[]⟩,.int .i64 0,.slice none 0 0,.int .i64 0] 40)
 have ch:=rdHere r g o cap t (u::us) _ h0
 obtain ⟨w2,hw2⟩:∃w2,w2=((w.alloc (.cells #[.int .i64 0,.string ⟨#[]⟩,.int .i64 0,.slice none 0 0,.int .i64 0] 40)).alloc (tkO t)).alloc (.cells #[.int .i64 4,.string ⟨#[]⟩,.int .i64 0,.slice none 0 0,.int .i64 t.line] 40):=⟨_,rfl⟩
 have h2:RdAt r g o cap (t::u::us) w2:=by rw [hw2];exact (h0.alloc _).alloc _
 have HK2:Hid (Kept r w w2):=by rw [hw2];exact (((Kept.refl r w).alloc _).alloc _).alloc _
 have cn:=rdName r g o cap t (u::us) w2 h2 (fun _=>by simp)
 simp only [hk,if_true] at cn
 clear h h0 h2
 go_enter Tryz.func195,Tryz.ntmps195
 go_wp2_with fail
 refine ch.mono ?_
 clear ch
 rintro e w1 ⟨rfl,rfl⟩
 simp only [tkV]
 go_wp2_with fail
 rw [←hw2]
 refine cn.mono ?_
 clear cn
 rintro e w3 ⟨hk3,rfl,h3⟩
 have n2:w2.heap[w.heap.size+1+1]?=some (.cells #[.int .i64 4,.string ⟨#[]⟩,.int .i64 0,.slice none 0 0,.int .i64 t.line] 40 (0,0)):=by
  have hx:=World.alloc_heap_new ((w.alloc (.cells #[.int .i64 0,.string ⟨#[]⟩,.int .i64 0,.slice none 0 0,.int .i64 0] 40)).alloc (tkO t)) (.cells #[.int .i64 4,.string ⟨#[]⟩,.int .i64 0,.slice none 0 0,.int .i64 t.line] 40)
  rw [←hw2,show ((w.alloc (.cells #[.int .i64 0,.string ⟨#[]⟩,.int .i64 0,.slice none 0 0,.int .i64 0] 40)).alloc (tkO t)).heap.size=w.heap.size+1+1 by simp] at hx
  exact hx
 have n0:w2.heap[w.heap.size]?=some (.cells #[.int .i64 0,.string ⟨#[]⟩,.int .i64 0,.slice none 0 0,.int .i64 0] 40 (0,0)):=by
  rw [hw2,Below.heap_alloc _ _ _ (by simp;omega),Below.heap_alloc _ _ _ (by simp)]
  exact World.alloc_heap_new _ _
 have n2':=(hk3.block _ (Array.getElem?_eq_some_iff.1 n2).1 (by omega)).trans n2
 have n0':=(hk3.block _ (Array.getElem?_eq_some_iff.1 n0).1 (by omega)).trans n0
 have HK3:Hid (Kept r w w3):=HK2.out.trans hk3
 clear n2 n0 hk3 hw2 HK2
 have c0:w3.cell? ⟨w.heap.size+1+1,0,none⟩=some (.int .i64 4):=by simp only [World.cell?,n2'];rfl
 have c1:w3.cell? ⟨w.heap.size+1+1,1,none⟩=some (.string ⟨#[]⟩):=by simp only [World.cell?,n2'];rfl
 have c2:w3.cell? ⟨w.heap.size+1+1,2,none⟩=some (.int .i64 0):=by simp only [World.cell?,n2'];rfl
 have c3:w3.cell? ⟨w.heap.size+1+1,3,none⟩=some (.slice none 0 0):=by simp only [World.cell?,n2'];rfl
 have c4:w3.cell? ⟨w.heap.size+1+1,4,none⟩=some (.int .i64 t.line):=by simp only [World.cell?,n2'];rfl
 have cf:w3.frozen? ⟨w.heap.size+1+1,1,none⟩=false:=by simp only [World.frozen?,n2'];rfl
 obtain ⟨w4,hw4⟩:∃w4,w4=w3.setCell ⟨w.heap.size+1+1,1,none⟩ (.string (strB t.s)):=⟨_,rfl⟩
 have d0:w4.cell? ⟨w.heap.size+1+1,0,none⟩=some (.int .i64 4):=by rw [hw4,World.cell?_setCell_other _ _ _ _ (by simp)];exact c0
 have d1:w4.cell? ⟨w.heap.size+1+1,1,none⟩=some (.string (strB t.s)):=by rw [hw4];exact World.cell?_setCell_same _ _ _ c1
 have d2:w4.cell? ⟨w.heap.size+1+1,2,none⟩=some (.int .i64 0):=by rw [hw4,World.cell?_setCell_other _ _ _ _ (by simp)];exact c2
 have d3:w4.cell? ⟨w.heap.size+1+1,3,none⟩=some (.slice none 0 0):=by rw [hw4,World.cell?_setCell_other _ _ _ _ (by simp)];exact c3
 have d4:w4.cell? ⟨w.heap.size+1+1,4,none⟩=some (.int .i64 t.line):=by rw [hw4,World.cell?_setCell_other _ _ _ _ (by simp)];exact c4
 have hkeep:∀k,k≠w.heap.size+1+1→w4.heap[k]?=w3.heap[k]?:=fun k hk=>by rw [hw4];exact Below.heap_setCell _ _ _ _ (by simpa using hk)
 have h4:RdAt r g (o+5) (cap-1) (u::us) w4:=h3.keep (hkeep r (by omega)) (hkeep g (by omega))
 have HK4:Hid (Kept r w w4):=⟨by rw [hw4];exact HK3.out.os,by rw [hw4];exact HK3.out.tape,by rw [hw4];exact HK3.out.output,by rw [hw4];simpa using HK3.out.size,fun k hk hr=>(hkeep k (by omega)).trans (HK3.out.block k hk hr)⟩
 have m0':=(hkeep w.heap.size (by omega)).trans n0'
 have ci:=rdIs r g (o+5) (cap-1) u us [40] w4 h4
 rw [hu] at ci
 have hw4':Hid (w3.setCell ⟨w.heap.size+1+1,1,none⟩ (.string (strB t.s))=w4):=hw4.symm
 obtain ⟨w5,hw5⟩:∃w5,w5=(w4.alloc (tkO u)).alloc (tkO u):=⟨_,rfl⟩
 rw [←hw5] at ci
 have HR5:Hid (RdAt r g (o+5) (cap-1) (u::us) w5):=by rw [hw5];exact (h4.alloc _).alloc _
 have HK5:Hid (Kept r w w5):=by rw [hw5];exact (HK4.out.alloc _).alloc _
 have e0:w5.cell? ⟨w.heap.size+1+1,0,none⟩=some (.int .i64 4):=by rw [hw5];exact cell_al (cell_al d0 _) _
 have e1:w5.cell? ⟨w.heap.size+1+1,1,none⟩=some (.string (strB t.s)):=by rw [hw5];exact cell_al (cell_al d1 _) _
 have e2:w5.cell? ⟨w.heap.size+1+1,2,none⟩=some (.int .i64 0):=by rw [hw5];exact cell_al (cell_al d2 _) _
 have e3:w5.cell? ⟨w.heap.size+1+1,3,none⟩=some (.slice none 0 0):=by rw [hw5];exact cell_al (cell_al d3 _) _
 have e4:w5.cell? ⟨w.heap.size+1+1,4,none⟩=some (.int .i64 t.line):=by rw [hw5];exact cell_al (cell_al d4 _) _
 have hl0:w.heap.size<w4.heap.size:=(Array.getElem?_eq_some_iff.1 m0').1
 have p0:w5.heap[w.heap.size]?=some (.cells #[.int .i64 0,.string ⟨#[]⟩,.int .i64 0,.slice none 0 0,.int .i64 0] 40 (0,0)):=by
  rw [hw5,Below.heap_alloc _ _ _ (by simp;omega),Below.heap_alloc _ _ _ hl0];exact m0'
 clear hw4 hkeep h3 h4 n2' n0' m0' HK3 HK4 d0 d1 d2 d3 d4 hw5 hl0
 go_wp2_with fail
 rw [hw4'.out]
 refine ci.mono ?_
 clear ci c0 c1 c2 c3 c4 cf
 rintro e w6 ⟨rfl,rfl⟩
 have q0:w6.cell? ⟨w.heap.size,0,none⟩=some (.int .i64 0):=by simp only [World.cell?,p0];rfl
 have q1:w6.cell? ⟨w.heap.size,1,none⟩=some (.string ⟨#[]⟩):=by simp only [World.cell?,p0];rfl
 have q2:w6.cell? ⟨w.heap.size,2,none⟩=some (.int .i64 0):=by simp only [World.cell?,p0];rfl
 have q3:w6.cell? ⟨w.heap.size,3,none⟩=some (.slice none 0 0):=by simp only [World.cell?,p0];rfl
 have q4:w6.cell? ⟨w.heap.size,4,none⟩=some (.int .i64 0):=by simp only [World.cell?,p0];rfl
 have qf:∀j,w6.frozen? ⟨w.heap.size,j,none⟩=false:=fun j=>by simp only [World.frozen?,p0];simp
 go_wp2
 obtain ⟨z0,z1,z2,z3,z4⟩:=set5_cells p0 (.int .i64 4) (.string (strB t.s)) (.int .i64 0) (.slice none 0 0) (.int .i64 t.line)
 refine bodyPost_ret (v:=.agg #[.int .i64 4,.string (strB t.s),.int .i64 0,.slice none 0 0,.int .i64 t.line]) (by simp [results,Tryz.results195,go_sem,z0,z1,z2,z3,z4]) rfl ⟨set5_kept HK5.out (Nat.le_refl _) _ _ _ _ _,_,o+5,cap-1,rfl,.leaf 4 t.s 0 t.line,?_⟩
 exact HR5.out.keep (set5_keep _ _ _ _ _ _ _ (by omega)) (set5_keep _ _ _ _ _ _ _ (by omega))
def callR (t:Tk):PR (List Ex)→PR Ex
 | .error a=>.error a
 | .ok (l,ts)=>.ok (.mk 5 t.s 0 l t.line,ts)
theorem Kept.setOther {r:Nat} {w w':World} (h:Kept r w w') {p:Addr} (hp:w.heap.size≤p.block) (v:Value):Kept r w (w'.setCell p v):=by
 have hb:Below 0 w' (w'.setCell p v):=(Below.refl 0 w').setCell (p:=p) (Nat.zero_le _) v
 exact ⟨hb.os.trans h.os,hb.tape.trans h.tape,hb.output.trans h.output,Nat.le_trans h.size hb.size,fun k hk hr=>(Below.heap_setCell _ _ _ _ (by omega)).trans (h.block k hk hr)⟩
theorem frozen_of_block {w w':World} {p:Addr} (h:w'.heap[p.block]?=w.heap[p.block]?):w'.frozen? p=w.frozen? p:=by
 simp only [World.frozen?,h]
set_option maxHeartbeats 4000000 in
theorem rdNameCall (r g o cap:Nat) (t u:Tk) (us:List Tk) (w:World) (res:PR (List Ex)) (h:RdAt r g o cap (t::u::us) w) (hk:t.k=1) (hu:isTk u [40]=true)
  (hbr:∀w1 o1 cap1,RdAt r g o1 cap1 (u::us) w1→Kept r w w1→Calls Tryz.prog 196 #[.pointer (some ⟨r,0,none⟩),.func (.func 37) #[.pointer (some ⟨r,0,none⟩)] #[]] w1 (PostL r g w1 res)) :
  Calls Tryz.prog 195 #[.pointer (some ⟨r,0,none⟩)] w (PostE r g w (callR t res)):=by
 have hmf:∀(fn:Fn) (first cap:Array Value) (w:World),(Instr.makeFunc fn first cap).run Tryz.prog w=.ok (.func fn first cap) w:=fun _ _ _ _=>rfl
 generalize hres:callR t res=res'
 have hf:=field_line
 have hr:=h.lt.1
 have hgw:=h.lt.2
 have h0:=h.alloc (.cells #[.int .i64 0,.string ⟨#[]⟩,.int .i64 0,.slice none 0 0,.int .i64 0] 40)
 have ch:=rdHere r g o cap t (u::us) _ h0
 obtain ⟨w2,hw2⟩:∃w2,w2=((w.alloc (.cells #[.int .i64 0,.string ⟨#[]⟩,.int .i64 0,.slice none 0 0,.int .i64 0] 40)).alloc (tkO t)).alloc (.cells #[.int .i64 4,.string ⟨#[]⟩,.int .i64 0,.slice none 0 0,.int .i64 t.line] 40):=⟨_,rfl⟩
 have h2:RdAt r g o cap (t::u::us) w2:=by rw [hw2];exact (h0.alloc _).alloc _
 have HK2:Hid (Kept r w w2):=by rw [hw2];exact (((Kept.refl r w).alloc _).alloc _).alloc _
 have cn:=rdName r g o cap t (u::us) w2 h2 (fun _=>by simp)
 simp only [hk,if_true] at cn
 clear h h0 h2
 go_enter Tryz.func195,Tryz.ntmps195
 go_wp2_with fail
 refine ch.mono ?_
 clear ch
 rintro e w1 ⟨rfl,rfl⟩
 simp only [tkV]
 go_wp2_with fail
 rw [←hw2]
 refine cn.mono ?_
 clear cn
 rintro e w3 ⟨hk3,rfl,h3⟩
 have n2:w2.heap[w.heap.size+1+1]?=some (.cells #[.int .i64 4,.string ⟨#[]⟩,.int .i64 0,.slice none 0 0,.int .i64 t.line] 40 (0,0)):=by
  have hx:=World.alloc_heap_new ((w.alloc (.cells #[.int .i64 0,.string ⟨#[]⟩,.int .i64 0,.slice none 0 0,.int .i64 0] 40)).alloc (tkO t)) (.cells #[.int .i64 4,.string ⟨#[]⟩,.int .i64 0,.slice none 0 0,.int .i64 t.line] 40)
  rw [←hw2,show ((w.alloc (.cells #[.int .i64 0,.string ⟨#[]⟩,.int .i64 0,.slice none 0 0,.int .i64 0] 40)).alloc (tkO t)).heap.size=w.heap.size+1+1 by simp] at hx
  exact hx
 have n0:w2.heap[w.heap.size]?=some (.cells #[.int .i64 0,.string ⟨#[]⟩,.int .i64 0,.slice none 0 0,.int .i64 0] 40 (0,0)):=by
  rw [hw2,Below.heap_alloc _ _ _ (by simp;omega),Below.heap_alloc _ _ _ (by simp)]
  exact World.alloc_heap_new _ _
 have n2':=(hk3.block _ (Array.getElem?_eq_some_iff.1 n2).1 (by omega)).trans n2
 have n0':=(hk3.block _ (Array.getElem?_eq_some_iff.1 n0).1 (by omega)).trans n0
 have HK3:Hid (Kept r w w3):=HK2.out.trans hk3
 clear n2 n0 hk3 hw2 HK2
 have c0:w3.cell? ⟨w.heap.size+1+1,0,none⟩=some (.int .i64 4):=by simp only [World.cell?,n2'];rfl
 have c1:w3.cell? ⟨w.heap.size+1+1,1,none⟩=some (.string ⟨#[]⟩):=by simp only [World.cell?,n2'];rfl
 have c2:w3.cell? ⟨w.heap.size+1+1,2,none⟩=some (.int .i64 0):=by simp only [World.cell?,n2'];rfl
 have c3:w3.cell? ⟨w.heap.size+1+1,3,none⟩=some (.slice none 0 0):=by simp only [World.cell?,n2'];rfl
 have c4:w3.cell? ⟨w.heap.size+1+1,4,none⟩=some (.int .i64 t.line):=by simp only [World.cell?,n2'];rfl
 have cf:w3.frozen? ⟨w.heap.size+1+1,1,none⟩=false:=by simp only [World.frozen?,n2'];rfl
 obtain ⟨w4,hw4⟩:∃w4,w4=w3.setCell ⟨w.heap.size+1+1,1,none⟩ (.string (strB t.s)):=⟨_,rfl⟩
 have d0:w4.cell? ⟨w.heap.size+1+1,0,none⟩=some (.int .i64 4):=by rw [hw4,World.cell?_setCell_other _ _ _ _ (by simp)];exact c0
 have d1:w4.cell? ⟨w.heap.size+1+1,1,none⟩=some (.string (strB t.s)):=by rw [hw4];exact World.cell?_setCell_same _ _ _ c1
 have d2:w4.cell? ⟨w.heap.size+1+1,2,none⟩=some (.int .i64 0):=by rw [hw4,World.cell?_setCell_other _ _ _ _ (by simp)];exact c2
 have d3:w4.cell? ⟨w.heap.size+1+1,3,none⟩=some (.slice none 0 0):=by rw [hw4,World.cell?_setCell_other _ _ _ _ (by simp)];exact c3
 have d4:w4.cell? ⟨w.heap.size+1+1,4,none⟩=some (.int .i64 t.line):=by rw [hw4,World.cell?_setCell_other _ _ _ _ (by simp)];exact c4
 have hkeep:∀k,k≠w.heap.size+1+1→w4.heap[k]?=w3.heap[k]?:=fun k hk=>by rw [hw4];exact Below.heap_setCell _ _ _ _ (by simpa using hk)
 have h4:RdAt r g (o+5) (cap-1) (u::us) w4:=h3.keep (hkeep r (by omega)) (hkeep g (by omega))
 have HK4:Hid (Kept r w w4):=⟨by rw [hw4];exact HK3.out.os,by rw [hw4];exact HK3.out.tape,by rw [hw4];exact HK3.out.output,by rw [hw4];simpa using HK3.out.size,fun k hk hr=>(hkeep k (by omega)).trans (HK3.out.block k hk hr)⟩
 have m0':=(hkeep w.heap.size (by omega)).trans n0'
 have ci:=rdIs r g (o+5) (cap-1) u us [40] w4 h4
 rw [hu] at ci
 have hw4':Hid (w3.setCell ⟨w.heap.size+1+1,1,none⟩ (.string (strB t.s))=w4):=hw4.symm
 obtain ⟨w5,hw5⟩:∃w5,w5=(w4.alloc (tkO u)).alloc (tkO u):=⟨_,rfl⟩
 rw [←hw5] at ci
 have HR5:Hid (RdAt r g (o+5) (cap-1) (u::us) w5):=by rw [hw5];exact (h4.alloc _).alloc _
 have HK5:Hid (Kept r w w5):=by rw [hw5];exact (HK4.out.alloc _).alloc _
 have e0:w5.cell? ⟨w.heap.size+1+1,0,none⟩=some (.int .i64 4):=by rw [hw5];exact cell_al (cell_al d0 _) _
 have e1:w5.cell? ⟨w.heap.size+1+1,1,none⟩=some (.string (strB t.s)):=by rw [hw5];exact cell_al (cell_al d1 _) _
 have e2:w5.cell? ⟨w.heap.size+1+1,2,none⟩=some (.int .i64 0):=by rw [hw5];exact cell_al (cell_al d2 _) _
 have e3:w5.cell? ⟨w.heap.size+1+1,3,none⟩=some (.slice none 0 0):=by rw [hw5];exact cell_al (cell_al d3 _) _
 have e4:w5.cell? ⟨w.heap.size+1+1,4,none⟩=some (.int .i64 t.line):=by rw [hw5];exact cell_al (cell_al d4 _) _
 have hl0:w.heap.size<w4.heap.size:=(Array.getElem?_eq_some_iff.1 m0').1
 have p0:w5.heap[w.heap.size]?=some (.cells #[.int .i64 0,.string ⟨#[]⟩,.int .i64 0,.slice none 0 0,.int .i64 0] 40 (0,0)):=by
  rw [hw5,Below.heap_alloc _ _ _ (by simp;omega),Below.heap_alloc _ _ _ hl0];exact m0'
 have m2':w5.frozen? ⟨w.heap.size+1+1,0,none⟩=false:=by
  have hf4:w4.frozen? ⟨w.heap.size+1+1,0,none⟩=false:=by rw [hw4,World.frozen?_setCell];simp only [World.frozen?,n2'];rfl
  have hb4:=World.block_lt_of_cell? w4 _ d0
  rw [hw5]
  simp only [World.frozen?] at hf4 ⊢
  rw [Below.heap_alloc _ _ _ (by simp;simp at hb4;omega),Below.heap_alloc _ _ _ hb4];exact hf4
 have m3':w5.frozen? ⟨w.heap.size+1+1,3,none⟩=false:=by
  have hf4:w4.frozen? ⟨w.heap.size+1+1,3,none⟩=false:=by rw [hw4,World.frozen?_setCell];simp only [World.frozen?,n2'];rfl
  have hb4:=World.block_lt_of_cell? w4 _ d0
  rw [hw5]
  simp only [World.frozen?] at hf4 ⊢
  rw [Below.heap_alloc _ _ _ (by simp;simp at hb4;omega),Below.heap_alloc _ _ _ hb4];exact hf4
 clear hw4 hkeep h3 h4 n2' n0' m0' HK3 HK4 d0 d1 d2 d3 d4 hw5 hl0
 go_wp2_with fail
 rw [hw4'.out]
 refine ci.mono ?_
 clear ci c0 c1 c2 c3 c4 cf
 rintro e w6 ⟨rfl,rfl⟩
 obtain ⟨w7,hw7⟩:∃w7,w7=w6.setCell ⟨w.heap.size+1+1,0,none⟩ (.int .i64 5):=⟨_,rfl⟩
 have HW7:Hid (w6.setCell ⟨w.heap.size+1+1,0,none⟩ (.int .i64 5)=w7):=hw7.symm
 have hkeep:∀k,k≠w.heap.size+1+1→w7.heap[k]?=w6.heap[k]?:=fun k hk=>by rw [hw7];exact Below.heap_setCell _ _ _ _ (by simpa using hk)
 have h7:RdAt r g (o+5) (cap-1) (u::us) w7:=HR5.out.keep (hkeep r (by omega)) (hkeep g (by omega))
 have k7:Kept r w w7:=by rw [hw7];exact HK5.out.setOther (by simp;omega) _
 have HK7:Hid (Kept r w w7):=k7
 have cb:=hbr w7 _ _ h7 k7
 have f0:w7.cell? ⟨w.heap.size+1+1,0,none⟩=some (.int .i64 5):=by rw [hw7];exact World.cell?_setCell_same _ _ _ e0
 have f1:w7.cell? ⟨w.heap.size+1+1,1,none⟩=some (.string (strB t.s)):=by rw [hw7,World.cell?_setCell_other _ _ _ _ (by simp)];exact e1
 have f2:w7.cell? ⟨w.heap.size+1+1,2,none⟩=some (.int .i64 0):=by rw [hw7,World.cell?_setCell_other _ _ _ _ (by simp)];exact e2
 have f3:w7.cell? ⟨w.heap.size+1+1,3,none⟩=some (.slice none 0 0):=by rw [hw7,World.cell?_setCell_other _ _ _ _ (by simp)];exact e3
 have f4:w7.cell? ⟨w.heap.size+1+1,4,none⟩=some (.int .i64 t.line):=by rw [hw7,World.cell?_setCell_other _ _ _ _ (by simp)];exact e4
 have ff:w7.frozen? ⟨w.heap.size+1+1,3,none⟩=false:=by rw [hw7,World.frozen?_setCell];exact m3'
 have p7:=(hkeep w.heap.size (by omega)).trans p0
 clear hbr h7 k7 hw7 hkeep p0
 go_wp2_with fail
 rw [HW7.out]
 refine cb.mono ?_
 clear cb e0 e1 e2 e3 e4 m2' m3'
 rintro e w8 ⟨hk8,hpost⟩
 subst hres
 rcases res with a | ⟨l,ts⟩
 ·obtain rfl:=hpost
  exact ⟨rfl,HK7.out.trans hk8,rfl⟩
 ·obtain ⟨v,o8,cap8,rfl,hrow,hrd⟩:=hpost
  have hr7:r≠w.heap.size+1+1:=by omega
  have g0:=hk8.cell (p:=⟨w.heap.size+1+1,0,none⟩) (fun h=>hr7 h.symm) f0
  have g1:=hk8.cell (p:=⟨w.heap.size+1+1,1,none⟩) (fun h=>hr7 h.symm) f1
  have g2:=hk8.cell (p:=⟨w.heap.size+1+1,2,none⟩) (fun h=>hr7 h.symm) f2
  have g3:=hk8.cell (p:=⟨w.heap.size+1+1,3,none⟩) (fun h=>hr7 h.symm) f3
  have g4:=hk8.cell (p:=⟨w.heap.size+1+1,4,none⟩) (fun h=>hr7 h.symm) f4
  have gf:w8.frozen? ⟨w.heap.size+1+1,3,none⟩=false:=(frozen_of_block (p:=⟨w.heap.size+1+1,3,none⟩) (hk8.block _ (World.block_lt_of_cell? w7 _ f3) (fun h=>hr7 h.symm))).trans ff
  have p8:=(hk8.block w.heap.size (Array.getElem?_eq_some_iff.1 p7).1 (by omega)).trans p7
  have HK8:Hid (Kept r w w8):=HK7.out.trans hk8
  have hN7:w.heap.size+1+1<w7.heap.size:=World.block_lt_of_cell? w7 _ f0
  obtain ⟨w9,hw9⟩:∃w9,w9=w8.setCell ⟨w.heap.size+1+1,3,none⟩ v:=⟨_,rfl⟩
  have HW9:Hid (w9=w8.setCell ⟨w.heap.size+1+1,3,none⟩ v):=hw9
  have hkeep:∀k,k≠w.heap.size+1+1→w9.heap[k]?=w8.heap[k]?:=fun k hk=>by rw [hw9];exact Below.heap_setCell _ _ _ _ (by simpa using hk)
  have hsz9:w8.heap.size≤w9.heap.size:=by rw [hw9];simp
  have HRow:Hid (RowAt w7.heap.size w9 l v):=hrow.kept hsz9 fun k hB _=>hkeep k (by omega)
  have HRd:Hid (RdAt r g o8 cap8 ts w9):=hrd.keep (hkeep r (by omega)) (hkeep g (by omega))
  have HK9:Hid (Kept r w w9):=by rw [hw9];exact HK8.out.setOther (by simp;omega) _
  have p9:=(hkeep w.heap.size (by omega)).trans p8
  have i0:w9.cell? ⟨w.heap.size+1+1,0,none⟩=some (.int .i64 5):=by rw [hw9,World.cell?_setCell_other _ _ _ _ (by simp)];exact g0
  have i1:w9.cell? ⟨w.heap.size+1+1,1,none⟩=some (.string (strB t.s)):=by rw [hw9,World.cell?_setCell_other _ _ _ _ (by simp)];exact g1
  have i2:w9.cell? ⟨w.heap.size+1+1,2,none⟩=some (.int .i64 0):=by rw [hw9,World.cell?_setCell_other _ _ _ _ (by simp)];exact g2
  have i3:w9.cell? ⟨w.heap.size+1+1,3,none⟩=some v:=by rw [hw9];exact World.cell?_setCell_same _ _ _ g3
  have i4:w9.cell? ⟨w.heap.size+1+1,4,none⟩=some (.int .i64 t.line):=by rw [hw9,World.cell?_setCell_other _ _ _ _ (by simp)];exact g4
  have q0:w9.cell? ⟨w.heap.size,0,none⟩=some (.int .i64 0):=by simp only [World.cell?,p9];rfl
  have q1:w9.cell? ⟨w.heap.size,1,none⟩=some (.string ⟨#[]⟩):=by simp only [World.cell?,p9];rfl
  have q2:w9.cell? ⟨w.heap.size,2,none⟩=some (.int .i64 0):=by simp only [World.cell?,p9];rfl
  have q3:w9.cell? ⟨w.heap.size,3,none⟩=some (.slice none 0 0):=by simp only [World.cell?,p9];rfl
  have q4:w9.cell? ⟨w.heap.size,4,none⟩=some (.int .i64 0):=by simp only [World.cell?,p9];rfl
  have qf:∀j,w9.frozen? ⟨w.heap.size,j,none⟩=false:=fun j=>by simp only [World.frozen?,p9];simp
  have hnv:∃a n c,v=.slice a n c:=by
   rcases hrow with ⟨-,rfl⟩ | ⟨_,_,_,rfl,_⟩
   ·exact ⟨_,_,_,rfl⟩
   ·exact ⟨_,_,_,rfl⟩
  obtain ⟨va,vn,vc,rfl⟩:=hnv
  clear hkeep hrow hrd f0 f1 f2 f3 f4 ff hk8 p8 g0 g1 g2 g4
  have hw9':=hw9.symm
  clear hw9
  go_wp2
  obtain ⟨z0,z1,z2,z3,z4⟩:=set5_cells p9 (.int .i64 5) (.string (strB t.s)) (.int .i64 0) (.slice va vn vc) (.int .i64 t.line)
  refine bodyPost_ret (v:=.agg #[.int .i64 5,.string (strB t.s),.int .i64 0,.slice va vn vc,.int .i64 t.line]) (by simp [results,Tryz.results195,go_sem,z0,z1,z2,z3,z4]) rfl ⟨set5_kept HK9.out (Nat.le_refl _) _ _ _ _ _,_,o8,cap8,rfl,?_,?_⟩
  ·have hrow:RowAt w7.heap.size (set5 w9 w.heap.size (.int .i64 5) (.string (strB t.s)) (.int .i64 0) (.slice va vn vc) (.int .i64 t.line)) l (.slice va vn vc) :=
    HRow.out.kept (by simp) fun k hB _=>set5_keep _ _ _ _ _ _ _ (by omega)
   exact ExAt.of_row (hrow.mono (by omega)) 5 t.s 0 t.line
  ·exact HRd.out.keep (set5_keep _ _ _ _ _ _ _ (by omega)) (set5_keep _ _ _ _ _ _ _ (by omega))
theorem ExIn.agg {S:Nat→Prop} {w:World} {x:Ex} {v:Value} (h:ExIn S w x v):∃(a:Int) (b:ByteArray) (c:Int) (d0:Option Addr) (d1 d2:Nat) (e:Int),v=.agg #[.int .i64 a,.string b,.int .i64 c,.slice d0 d1 d2,.int .i64 e]:=by
 cases h with
 | leaf=>exact ⟨_,_,_,_,_,_,_,rfl⟩
 | node=>exact ⟨_,_,_,_,_,_,_,rfl⟩
abbrev exZ:Obj:=.cells #[.int .i64 0,.string ⟨#[]⟩,.int .i64 0,.slice none 0 0,.int .i64 0] 40
set_option maxHeartbeats 4000000 in
theorem rdExpr (r g:Nat) (w:World) (res:PR Ex) (hr:r<w.heap.size) (hgw:g<w.heap.size)
  (hb:Calls Tryz.prog 77 #[.pointer (some ⟨r,0,none⟩),.int .i64 1] (w.alloc exZ) (PostE r g (w.alloc exZ) res)) :
  Calls Tryz.prog 37 #[.pointer (some ⟨r,0,none⟩)] w (PostE r g w res):=by
 go_enter Tryz.func37,Tryz.ntmps37
 go_wp2_with fail
 refine hb.mono ?_
 clear hb
 rintro e w1 ⟨hk1,hpost⟩
 have hK:Kept r w w1:=((Kept.refl r w).alloc _).trans hk1
 rcases res with a | ⟨x,ts⟩
 ·obtain rfl:=hpost
  exact ⟨rfl,hK,rfl⟩
 ·obtain ⟨v,o,cap,rfl,hx,hrd⟩:=hpost
  obtain ⟨a,b,c,d0,d1,d2,e,rfl⟩:=hx.agg
  have hsz:(w.alloc exZ).heap.size=w.heap.size+1:=by simp
  have p0:w1.heap[w.heap.size]?=some exZ:=(hk1.block w.heap.size (by omega) (by omega)).trans (World.alloc_heap_new w _)
  have q0:w1.cell? ⟨w.heap.size,0,none⟩=some (.int .i64 0):=by simp only [World.cell?,p0];rfl
  have q1:w1.cell? ⟨w.heap.size,1,none⟩=some (.string ⟨#[]⟩):=by simp only [World.cell?,p0];rfl
  have q2:w1.cell? ⟨w.heap.size,2,none⟩=some (.int .i64 0):=by simp only [World.cell?,p0];rfl
  have q3:w1.cell? ⟨w.heap.size,3,none⟩=some (.slice none 0 0):=by simp only [World.cell?,p0];rfl
  have q4:w1.cell? ⟨w.heap.size,4,none⟩=some (.int .i64 0):=by simp only [World.cell?,p0];rfl
  have qf:∀j,w1.frozen? ⟨w.heap.size,j,none⟩=false:=fun j=>by simp only [World.frozen?,p0];simp
  have HX:Hid (ExAt (w.alloc exZ).heap.size w1 x (.agg #[.int .i64 a,.string b,.int .i64 c,.slice d0 d1 d2,.int .i64 e])):=hx
  have HR:Hid (RdAt r g o cap ts w1):=hrd
  have HK:Hid (Kept r w w1):=hK
  clear hk1 hx hrd hK
  go_wp2
  obtain ⟨z0,z1,z2,z3,z4⟩:=set5_cells p0 (.int .i64 a) (.string b) (.int .i64 c) (.slice d0 d1 d2) (.int .i64 e)
  refine bodyPost_ret (v:=.agg #[.int .i64 a,.string b,.int .i64 c,.slice d0 d1 d2,.int .i64 e]) (by simp [results,Tryz.results37,go_sem,z0,z1,z2,z3,z4]) rfl ⟨set5_kept HK.out (Nat.le_refl _) _ _ _ _ _,_,o,cap,rfl,?_,?_⟩
  ·exact (HX.out.kept (w':=set5 w1 w.heap.size (.int .i64 a) (.string b) (.int .i64 c) (.slice d0 d1 d2) (.int .i64 e)) (by simp) fun k hB _=>set5_keep _ _ _ _ _ _ _ (by omega)).mono (by omega)
  ·exact HR.out.keep (set5_keep _ _ _ _ _ _ _ (by omega)) (set5_keep _ _ _ _ _ _ _ (by omega))
theorem thenP_ok {α β:Type} {x:Option (PR α)} {k:α→List Tk→Option (PR β)} {p:β × List Tk} (h:thenP x k=some (.ok p)):∃y us,x=some (.ok (y,us))∧k y us=some (.ok p):=by
 unfold thenP at h
 cases x with
 | none=>cases h
 | some x =>
  cases x with
  | error a=>cases h
  | ok q=>exact ⟨q.1,q.2,rfl,h⟩
theorem ends_tail {ts:List Tk} (h:EndsT ts) (hk:(hdT ts).k≠0):EndsT ts.tail:=by
 obtain ⟨t,us,rfl⟩:=h.cons
 exact h.tail hk
theorem ends_is {ts:List Tk} {s:List UInt8} (h:EndsT ts) (hk:isTk (hdT ts) s=true):EndsT ts.tail:=ends_tail h (isTk_kind hk)
theorem needP_ends {s:List UInt8} {ts us:List Tk} {y:Unit} (h:needP s ts=some (.ok (y,us))) (hE:EndsT ts):EndsT us:=by
 unfold needP at h
 split at h
 ·rename_i hc
  simp only [Option.some.injEq,Except.ok.injEq,Prod.mk.injEq] at h
  rw [←h.2];exact ends_is hE hc
 ·cases h
theorem nameP_ends {s:List UInt8} {ts us:List Tk} (h:nameP ts=some (.ok (s,us))) (hE:EndsT ts):EndsT us:=by
 unfold nameP at h
 split at h
 ·rename_i hc
  simp only [Option.some.injEq,Except.ok.injEq,Prod.mk.injEq] at h
  rw [←h.2];exact ends_tail hE (by omega)
 ·cases h
theorem okP_ends {α:Type} {x y:α} {ts us:List Tk} (h:(some (.ok (x,ts)):Option (PR α))=some (.ok (y,us))) (hE:EndsT ts):EndsT us:=by
 simp only [Option.some.injEq,Except.ok.injEq,Prod.mk.injEq] at h
 rw [←h.2];exact hE
theorem parse_ends (f:Nat) :
  (∀least ts x us,pBetween f least ts=some (.ok (x,us))→EndsT ts→EndsT us)∧(∀least e ts x us,pMore f least e ts=some (.ok (x,us))→EndsT ts→EndsT us) ∧
  (∀ts x us,pUnary f ts=some (.ok (x,us))→EndsT ts→EndsT us)∧(∀e ts x us,pBehind f e ts=some (.ok (x,us))→EndsT ts→EndsT us)∧(∀ts x us,pSingle f ts=some (.ok (x,us))→EndsT ts→EndsT us) ∧
  (∀pre ts x us,pRow f pre ts=some (.ok (x,us))→EndsT ts→EndsT us)∧(∀ts x us,pBrackets f ts=some (.ok (x,us))→EndsT ts→EndsT us):=by
 induction f with
 | zero=>refine ⟨?_,?_,?_,?_,?_,?_,?_⟩ <;> intros <;> simp_all [pBetween,pMore,pUnary,pBehind,pSingle,pRow,pBrackets]
 | succ f ih =>
  obtain ⟨i1,i2,i3,i4,i5,i6,i7⟩:=ih
  refine ⟨fun least ts x us h hE=>?_,fun least e ts x us h hE=>?_,fun ts x us h hE=>?_,fun e ts x us h hE=>?_,fun ts x us h hE=>?_,fun pre ts x us h hE=>?_,fun ts x us h hE=>?_⟩
  ·rw [pBetween] at h
   split at h
   ·exact i3 _ _ _ h hE
   ·obtain ⟨y,vs,h1,h2⟩:=thenP_ok h
    exact i2 _ _ _ _ _ h2 (i1 _ _ _ _ h1 hE)
  ·rw [pMore] at h
   split at h
   ·rename_i hc
    obtain ⟨y,vs,h1,h2⟩:=thenP_ok h
    exact i2 _ _ _ _ _ h2 (i1 _ _ _ _ h1 (ends_tail hE (by omega)))
   ·exact okP_ends h hE
  ·rw [pUnary] at h
   split at h
   ·rename_i hc
    obtain ⟨y,vs,h1,h2⟩:=thenP_ok h
    exact okP_ends h2 (i3 _ _ _ h1 (ends_tail hE (by omega)))
   ·obtain ⟨y,vs,h1,h2⟩:=thenP_ok h
    exact i4 _ _ _ _ h2 (i5 _ _ _ h1 hE)
  ·rw [pBehind] at h
   split at h
   ·rename_i hc
    obtain ⟨y,vs,h1,h2⟩:=thenP_ok h
    obtain ⟨z,xs,h3,h4⟩:=thenP_ok h2
    exact i4 _ _ _ _ h4 (needP_ends h3 (i1 _ _ _ _ h1 (ends_is hE hc)))
   ·split at h
    ·rename_i hc
     obtain ⟨y,vs,h1,h2⟩:=thenP_ok h
     exact i4 _ _ _ _ h2 (nameP_ends h1 (ends_is hE hc))
    ·exact okP_ends h hE
  ·rw [pSingle] at h
   split at h
   ·rename_i hc;exact okP_ends h (ends_tail hE (by omega))
   split at h
   ·rename_i hc;exact okP_ends h (ends_tail hE (by omega))
   split at h
   ·rename_i hc
    have hT:=ends_tail hE (by omega)
    split at h
    ·obtain ⟨y,vs,h1,h2⟩:=thenP_ok h
     exact okP_ends h2 (i7 _ _ _ h1 hT)
    ·exact okP_ends h hT
   split at h
   ·rename_i hc;exact okP_ends h (ends_is hE hc)
   split at h
   ·rename_i hc;exact okP_ends h (ends_is hE hc)
   split at h
   ·rename_i hc
    obtain ⟨y,vs,h1,h2⟩:=thenP_ok h
    obtain ⟨z,xs,h3,h4⟩:=thenP_ok h2
    exact okP_ends h4 (i7 _ _ _ h3 (nameP_ends h1 (ends_is hE hc)))
   split at h
   ·rename_i hc
    obtain ⟨y,vs,h1,h2⟩:=thenP_ok h
    obtain ⟨z,xs,h3,h4⟩:=thenP_ok h2
    exact okP_ends h4 (needP_ends h3 (i6 _ _ _ _ h1 (ends_is hE hc)))
   ·obtain ⟨y,vs,h1,h2⟩:=thenP_ok h
    obtain ⟨z,xs,h3,h4⟩:=thenP_ok h2
    obtain ⟨z',xs',h5,h6⟩:=thenP_ok h4
    exact okP_ends h6 (needP_ends h5 (i1 _ _ _ _ h3 (needP_ends h1 hE)))
  ·rw [pRow] at h
   obtain ⟨y,vs,h1,h2⟩:=thenP_ok h
   have hV:=i1 _ _ _ _ h1 hE
   split at h2
   ·rename_i hc;exact i6 _ _ _ _ h2 (ends_is hV hc)
   ·exact okP_ends h2 hV
  ·rw [pBrackets] at h
   obtain ⟨y,vs,h1,h2⟩:=thenP_ok h
   have hV:=needP_ends h1 hE
   split at h2
   ·rename_i hc;exact okP_ends h2 (ends_is hV hc)
   ·obtain ⟨z,xs,h3,h4⟩:=thenP_ok h2
    obtain ⟨z',xs',h5,h6⟩:=thenP_ok h4
    exact okP_ends h6 (needP_ends h5 (i6 _ _ _ _ h3 hV))
end Go.Proofs.YtghhamgealkodaaGreatDoor
