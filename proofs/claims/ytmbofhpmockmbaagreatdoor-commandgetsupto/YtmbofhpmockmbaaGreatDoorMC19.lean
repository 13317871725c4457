import Derived.Test.YtmbofhpmockmbaaGreatDoorMC18
import Derived.Test.YtmbofhpmockmbaaGreatDoorXTk
import Derived.Test.YtmbofhpmockmbaaGreatDoorMC37
import Derived.Test.YtmbofhpmockmbaaGreatDoorMC11
namespace Go.Proofs.YtmbofhpmockmbaaGreatDoor
open Go.RowKit Go.Shelf
set_option maxHeartbeats 16000000
set_option maxRecDepth 100000
def zB:List (List UInt8 × Nat):=[([124,124],1),([38,38],2),([61,61],3),([33,61],3),([60],4),([60,61],4),([62],4),([62,61],4),([43],5),([45],5),([42],6),([47],6),([37],6)]
def levelOf (s:List UInt8):Nat:=((zB.find? fun p=>decide (p.1=s)).map (·.2)).getD 0
def yJ:List Value:=zB.flatMap fun p=>[.string (za p.1),.int .i64 p.2]
def levelsV:Value:=.agg yJ.toArray
def yc (w:World):Prop:=w.rangeAt 5 0 yJ
theorem vK:(Tryz.prog.info? 202).map (·.size)=some yJ.length:=by kernel_rfl
theorem Vr (w:World) (i:Nat) (h:i<13):(Instr.index 202 levelsV (.int .i64 (i:Int))).run Tryz.prog w=.ok (.agg #[.string (za (zB[i]'h).1),.int .i64 (zB[i]'h).2]) w:=by
 have o:i=0∨i=1∨i=2∨i=3∨i=4∨i=5∨i=6∨i=7∨i=8∨i=9∨i=10∨i=11∨i=12:=by omega
 rcases o with rfl | rfl | rfl | rfl | rfl | rfl | rfl | rfl | rfl | rfl | rfl | rfl | rfl
 all_goals rfl
theorem Ut {s:List UInt8} {i:Nat} (h:i<zB.length) (he:(zB[i]'h).1=s):levelOf s=(zB[i]'h).2:=by
 subst he;have o:∀j (hj:j<zB.length),levelOf (zB[j]'hj).1=(zB[j]'hj).2:=by decide
 exact o i h
theorem uC {s:List UInt8} (h:∀j (o:j<zB.length),(zB[j]'o).1≠s):levelOf s=0:=by
 unfold levelOf
 have:zB.find? (fun p=>decide (p.1=s))=none:=by
  rw [List.find?_eq_none];intro p y;obtain ⟨j,o,rfl⟩:=List.getElem_of_mem y
  simpa using h j o
 rw [this];rfl
theorem Vs (s:List UInt8) (w:World) (ht:yc w) :
  Calls Tryz.prog 120 #[.string (za s)] w fun e w'=>e=.returned (.int .i64 (levelOf s))∧Below w.heap.size w w':=by
 have L:Hid (yc w):=ht;clear ht
 go_enter Tryz.func120,Tryz.ntmps120
 go_wp2_with (refine wpList_load_mid rfl 202 _ rfl 5 0 rfl yJ _ L.out Tryz.underlying202 rfl vK ?_)
 have M:Hid (∀(wx:World) (i:Nat) (h:i<13),(Instr.index 202 levelsV (.int .i64 (i:Int))).run Tryz.prog wx=.ok (.agg #[.string (za (zB[i]'h).1),.int .i64 (zB[i]'h).2]) wx):=fun wx i h=>Vr wx i h
 rw [show Value.agg yJ.toArray=levelsV from rfl]
 generalize levelsV=A at *
 go_loopw [6] (fun x wr=>∃i:Nat,i≤13∧x=.int .i64 i∧(∀j (hj:j<13),j<i→(zB[j]'hj).1≠s)∧Below w.heap.size w wr) (fun x _=>13-(intOf x).toNat)
 case atStart=>exact ⟨0,Nat.zero_le _,rfl,fun j _ h=>by omega,Below.refl _ _⟩
 case round =>
  obtain ⟨i,O,rfl,o,z⟩:=hrel;have J:Hid (∀j (hj:j<13),j<i→(zB[j]'hj).1≠s):=o;have I:Hid (Below w.heap.size w wr):=z;have y:=z.size;clear o z
  by_cases hlt:i<13
  ·have D:=fun wx=>M.out wx i hlt
   obtain ⟨a,E⟩:∃a,a=(zB[i]'hlt).1:=⟨_,rfl⟩;obtain ⟨b,H⟩:∃b,b=(zB[i]'hlt).2:=⟨_,rfl⟩;rw [←E,←H] at D
   by_cases he:a=s
   ·have G:Hid (levelOf s=b):=show _=_ by rw [H];exact Ut hlt (by rw [←E,he])
    subst he;clear E H;go_wp2
    refine bodyPost_ret (v:=.int .i64 b) (by simp [results,Tryz.results120,go_sem]) rfl ⟨by rw [G.out],?_⟩
    exact I.out.alloc y _
   ·have G:Hid ((zB[i]'hlt).1≠s):=show _≠s by rw [←E];exact he
    have K:(a==s)=false:=by rw [beq_eq_false_iff_ne];exact he
    clear E H he;go_wp2
    refine ⟨⟨i+1,by omega,by go_num,fun j hj hji=>?_,I.out.alloc y _⟩,by simp [intOf];omega⟩
    by_cases h:j<i
    ·exact J.out j hj h
    ·obtain rfl:j=i:=by omega
     exact G.out
  ·obtain rfl:i=13:=by omega
   have G:Hid (levelOf s=0):=uC (fun j hj=>J.out j hj hj)
   go_wp2
   refine bodyPost_ret (v:=.int .i64 0) (by simp [results,Tryz.results120,go_sem]) rfl ⟨by rw [G.out];rfl,?_⟩
   exact I.out
theorem xH (s:List UInt8) (w:World) :
  Calls Tryz.prog 146 #[.string (za s)] w fun e w'=>e=.returned (.bool (s==[45]||s==[33]))∧w'=w:=by
 go_enter Tryz.func146,Tryz.ntmps146
 go_wp2
 all_goals simp_all [bodyPost,results,Tryz.results146]
inductive Ex where
 | mk (k:Nat) (s:List UInt8) (n:Int) (kids:List Ex) (line:Nat)
inductive zC (S:Nat→Prop) (w:World):Ex→Value→Prop where
 | leaf (k:Nat) (s:List UInt8) (n:Int) (line:Nat):zC S w (.mk k s n [] line) (.agg #[.int .i64 k,.string (za s),.int .i64 n,.slice none 0 0,.int .i64 line])
 | node (k:Nat) (s:List UInt8) (n:Int) (kids:List Ex) (line g cap:Nat) (us:List (List Value)) (hne:kids≠[]) (hlen:us.length=kids.length) (hB:S g) (hg:g<w.heap.size) (hc:kids.length≤cap) (hm:cap≤maxLen)
   (hcell:∀j u,us.flatten[j]?=some u→w.cell? ⟨g,j,none⟩=some u) (hfive:∀c∈us,c.length=5)
   (hk:∀(j:Nat) (x:Ex) (c:List Value),kids[j]?=some x→us[j]?=some c→zC S w x (.agg c.toArray)) :
   zC S w (.mk k s n kids line) (.agg #[.int .i64 k,.string (za s),.int .i64 n,.slice (some ⟨g,0,none⟩) kids.length cap,.int .i64 line])
abbrev zX (B:Nat) (w:World) (x:Ex) (v:Value):Prop:=zC (fun k=>B≤k) w x v
theorem zC.kept {S:Nat→Prop} {w w':World} {x:Ex} {v:Value} (h:zC S w x v) (hs:w.heap.size≤w'.heap.size) (hb:∀k,S k→k<w.heap.size→w'.heap[k]?=w.heap[k]?):zC S w' x v:=by
 induction h with
 | leaf k s n line=>exact .leaf k s n line
 | node k s n kids line g cap us hne hlen hB hg hc hm hcell hfive _ ih =>
  refine .node k s n kids line g cap us hne hlen hB (Nat.lt_of_lt_of_le hg hs) hc hm (fun j u hj=>?_) hfive (fun j x c hx hc'=>ih j x c hx hc')
  rw [World.cell?_of_block (hb g hB hg)];exact hcell j u hj
theorem zC.wide {S S':Nat→Prop} {w:World} {x:Ex} {v:Value} (h:zC S w x v) (hS:∀k,S k→S' k):zC S' w x v:=by
 induction h with
 | leaf k s n line=>exact .leaf k s n line
 | node k s n kids line g cap us hne hlen hB hg hc hm hcell hfive _ ih=>exact .node k s n kids line g cap us hne hlen (hS _ hB) hg hc hm hcell hfive ih
theorem zC.low {S:Nat→Prop} {w:World} {x:Ex} {v:Value} (h:zC S w x v):zC (fun k=>S k∧k<w.heap.size) w x v:=by
 induction h with
 | leaf k s n line=>exact .leaf k s n line
 | node k s n kids line g cap us hne hlen hB hg hc hm hcell hfive _ ih=>exact .node k s n kids line g cap us hne hlen ⟨hB,hg⟩ hg hc hm hcell hfive ih
theorem zX.kept {B:Nat} {w w':World} {x:Ex} {v:Value} (h:zX B w x v) (hs:w.heap.size≤w'.heap.size) (hb:∀k,B≤k→k<w.heap.size→w'.heap[k]?=w.heap[k]?):zX B w' x v:=zC.kept h hs hb
def Ex.line:Ex→Nat | .mk _ _ _ _ l=>l
def Ex.kind:Ex→Nat | .mk k _ _ _ _=>k
def zT:List Tk→Tk | t::_=>t | []=>⟨0,[],0,0,0⟩
abbrev PR (α:Type):=Except Nat (α × List Tk)
def zp {α β:Type} (x:Option (PR α)) (k:α→List Tk→Option (PR β)):Option (PR β) :=
 match x with
 | none=>none
 | some (.error a)=>some (.error a)
 | some (.ok (y,ts))=>k y ts
def Zr (s:List UInt8) (ts:List Tk):Option (PR Unit):=some (if zq (zT ts) s=true then .ok ((),ts.tail) else .error (zT ts).at0)
def YB (ts:List Tk):Option (PR (List UInt8)):=some (if (zT ts).k=1 then .ok ((zT ts).s,ts.tail) else .error (zT ts).at0)
mutual
def zd:Nat→Nat→List Tk→Option (PR Ex)
 | 0,_,_=>none
 | f+1,least,ts=>if 6<least then Zc f ts else zp (zd f (least+1) ts) fun e ts=>z7 f least e ts
def z7:Nat→Nat→Ex→List Tk→Option (PR Ex)
 | 0,_,_,_=>none
 | f+1,least,e,ts=>if (zT ts).k=4∧levelOf (zT ts).s=least then zp (zd f (least+1) ts.tail) fun e2 ts'=>z7 f least (.mk 7 (zT ts).s 0 [e,e2] e.line) ts' else some (.ok (e,ts))
def Zc:Nat→List Tk→Option (PR Ex)
 | 0,_=>none
 | f+1,ts=>if (zT ts).k=4∧((zT ts).s=[45]∨(zT ts).s=[33]) then zp (Zc f ts.tail) fun e ts'=>some (.ok (.mk 6 (zT ts).s 0 [e] (zT ts).line,ts')) else zp (zx f ts) fun e ts=>zn f e ts
def zn:Nat→Ex→List Tk→Option (PR Ex)
 | 0,_,_=>none
 | f+1,e,ts =>
  if zq (zT ts) [91]=true then zp (zd f 1 ts.tail) fun i ts=>zp (Zr [93] ts) fun _ ts=>zn f (.mk 8 [] 0 [e,i] e.line) ts
  else if zq (zT ts) [46]=true then zp (YB ts.tail) fun s ts=>zn f (.mk 9 s 0 [e] e.line) ts
  else some (.ok (e,ts))
def zx:Nat→List Tk→Option (PR Ex)
 | 0,_=>none
 | f+1,ts =>
  if (zT ts).k=2 then some (.ok (.mk 1 [] (zT ts).n [] (zT ts).line,ts.tail))
  else if (zT ts).k=3 then some (.ok (.mk 3 (zT ts).s 0 [] (zT ts).line,ts.tail))
  else if (zT ts).k=1 then
   if zq (zT ts.tail) [40]=true then zp (zy f ts.tail) fun l ts'=>some (.ok (.mk 5 (zT ts).s 0 l (zT ts).line,ts')) else some (.ok (.mk 4 (zT ts).s 0 [] (zT ts).line,ts.tail))
  else if zq (zT ts) [116,114,117,101]=true then some (.ok (.mk 2 [] 1 [] (zT ts).line,ts.tail))
  else if zq (zT ts) [102,97,108,115,101]=true then some (.ok (.mk 2 [] 0 [] (zT ts).line,ts.tail))
  else if zq (zT ts) [110,101,119]=true then zp (YB ts.tail) fun s ts'=>zp (zy f ts') fun l ts'=>some (.ok (.mk 11 s 0 l (zT ts).line,ts'))
  else if zq (zT ts) [91]=true then zp (ZQ f [] ts.tail) fun l ts'=>zp (Zr [93] ts') fun _ ts'=>some (.ok (.mk 10 [] 0 l (zT ts).line,ts'))
  else zp (Zr [40] ts) fun _ ts=>zp (zd f 1 ts) fun e ts=>zp (Zr [41] ts) fun _ ts=>some (.ok (e,ts))
def ZQ:Nat→List Ex→List Tk→Option (PR (List Ex))
 | 0,_,_=>none
 | f+1,pre,ts=>zp (zd f 1 ts) fun e ts=>if zq (zT ts) [44]=true then ZQ f (pre++[e]) ts.tail else some (.ok (pre++[e],ts))
def zy:Nat→List Tk→Option (PR (List Ex))
 | 0,_=>none
 | f+1,ts=>zp (Zr [40] ts) fun _ ts=>if zq (zT ts) [41]=true then some (.ok ([],ts.tail)) else zp (ZQ f [] ts) fun l ts=>zp (Zr [41] ts) fun _ ts=>some (.ok (l,ts))
end
theorem zA {α β:Type} {x y:Option (PR α)} {k l:α→List Tk→Option (PR β)} {r:PR β} (h:zp x k=some r) (hx:∀r,x=some r→y=some r) (hk:∀a ts r,k a ts=some r→l a ts=some r):zp y l=some r:=by
 unfold zp at h ⊢
 cases x with
 | none=>cases h
 | some x =>
  rw [hx x rfl];cases x with
  | error a=>exact h
  | ok p=>exact hk _ _ _ h
theorem Vt (f:Nat) :
  (∀least ts r,zd f least ts=some r→zd (f+1) least ts=some r)∧(∀least e ts r,z7 f least e ts=some r→z7 (f+1) least e ts=some r) ∧
  (∀ts r,Zc f ts=some r→Zc (f+1) ts=some r)∧(∀e ts r,zn f e ts=some r→zn (f+1) e ts=some r)∧(∀ts r,zx f ts=some r→zx (f+1) ts=some r) ∧
  (∀pre ts r,ZQ f pre ts=some r→ZQ (f+1) pre ts=some r)∧(∀ts r,zy f ts=some r→zy (f+1) ts=some r):=by
 induction f with
 | zero=>refine ⟨?_,?_,?_,?_,?_,?_,?_⟩ <;> intros <;> rename_i h <;> simp [zd,z7,Zc,zn,zx,ZQ,zy] at h
 | succ f ih =>
  obtain ⟨i1,i2,D,y,E,z,A⟩:=ih;refine ⟨fun least ts r h=>?_,fun least e ts r h=>?_,fun ts r h=>?_,fun e ts r h=>?_,fun ts r h=>?_,fun pre ts r h=>?_,fun ts r h=>?_⟩
  ·rw [zd] at h ⊢
   split at h
   ·rename_i o;rw [if_pos o];exact D _ _ h
   ·rename_i o;rw [if_neg o];exact zA h (i1 _ _) fun a ts r=>i2 _ _ _ _
  ·rw [z7] at h ⊢
   split at h
   ·rename_i o;rw [if_pos o];exact zA h (i1 _ _) fun a ts r=>i2 _ _ _ _
   ·rename_i o;rw [if_neg o];exact h
  ·rw [Zc] at h ⊢
   split at h
   ·rename_i o;rw [if_pos o];exact zA h (D _) fun a ts r h=>h
   ·rename_i o;rw [if_neg o];exact zA h (E _) fun a ts r=>y _ _ _
  ·rw [zn] at h ⊢
   split at h
   ·rename_i o;rw [if_pos o];exact zA h (i1 _ _) fun a ts r h=>zA h (fun _ h=>h) fun a ts r=>y _ _ _
   ·rename_i o;rw [if_neg o]
    split at h
    ·rename_i o;rw [if_pos o];exact zA h (fun _ h=>h) fun a ts r=>y _ _ _
    ·rename_i o;rw [if_neg o];exact h
  ·rw [zx] at h ⊢
   repeat' split at h
   all_goals simp_all only [if_true,if_false,Bool.false_eq_true]
   all_goals first
    | exact h
    | exact zA h (A _) fun a ts r h=>h
    | exact zA h (fun _ h=>h) fun a ts r h=>zA h (A _) fun a ts r h=>h
    | exact zA h (z _ _) fun a ts r h=>zA h (fun _ h=>h) fun a ts r h=>h
    | exact zA h (fun _ h=>h) fun a ts r h=>zA h (i1 _ _) fun a ts r h=>zA h (fun _ h=>h) fun a ts r h=>h
  ·rw [ZQ] at h ⊢
   refine zA h (i1 _ _) fun a ts r h=>?_
   split at h
   ·rename_i o;rw [if_pos o];exact z _ _ _ h
   ·rename_i o;rw [if_neg o];exact h
  ·rw [zy] at h ⊢
   refine zA h (fun _ h=>h) fun a ts r h=>?_
   split at h
   ·rename_i o;rw [if_pos o];exact h
   ·rename_i o;rw [if_neg o];exact zA h (z _ _) fun a ts r h=>h
def YQ (w:World):Prop:=vF w∧yc w∧Y3 w
theorem YQ.below {w w':World} (h:YQ w) (hb:Below w.heap.size w w'):YQ w':=by
 refine ⟨h.1.below hb (Nat.le_refl _),fun j v hj=>by rw [hb.cell (World.block_lt_of_cell? w _ (h.2.1 j v hj))];exact h.2.1 j v hj,?_⟩
 have:=h.2.2
 unfold Y3 at this ⊢
 rw [hb.cell (World.block_lt_of_cell? w _ this)];exact this
end Go.Proofs.YtmbofhpmockmbaaGreatDoor
