import Derived.Test.YtmbofhpmockmbaaGreatDoorMC14
import Derived.Test.YtmbofhpmockmbaaGreatDoorXTk
namespace Go.Proofs.YtmbofhpmockmbaaGreatDoor
open Go.RowKit Go.Shelf
set_option maxHeartbeats 16000000
set_option maxRecDepth 100000
def zA:List (List UInt8 × Nat):=[([124,124],1),([38,38],2),([61,61],3),([33,61],3),([60],4),([60,61],4),([62],4),([62,61],4),([43],5),([45],5),([42],6),([47],6),([37],6)]
def levelOf (s:List UInt8):Nat:=((zA.find? fun p=>decide (p.1=s)).map (·.2)).getD 0
def yB:List Value:=zA.flatMap fun p=>[.string (za p.1),.int .i64 p.2]
def levelsV:Value:=.agg yB.toArray
def Z2 (w:World):Prop:=w.rangeAt 5 0 yB
theorem XX:(Tryz.prog.info? 202).map (·.size)=some yB.length:=by kernel_rfl
theorem vC (w:World) (i:Nat) (h:i<13):(Instr.index 202 levelsV (.int .i64 (i:Int))).run Tryz.prog w=.ok (.agg #[.string (za (zA[i]'h).1),.int .i64 (zA[i]'h).2]) w:=by
 have e:i=0∨i=1∨i=2∨i=3∨i=4∨i=5∨i=6∨i=7∨i=8∨i=9∨i=10∨i=11∨i=12:=by omega
 rcases e with rfl | rfl | rfl | rfl | rfl | rfl | rfl | rfl | rfl | rfl | rfl | rfl | rfl
 all_goals rfl
theorem uJ {s:List UInt8} {i:Nat} (h:i<zA.length) (he:(zA[i]'h).1=s):levelOf s=(zA[i]'h).2:=by
 subst he;have e:∀j (hj:j<zA.length),levelOf (zA[j]'hj).1=(zA[j]'hj).2:=by decide
 exact e i h
theorem VS {s:List UInt8} (h:∀j (e:j<zA.length),(zA[j]'e).1≠s):levelOf s=0:=by
 unfold levelOf
 have:zA.find? (fun p=>decide (p.1=s))=none:=by
  rw [List.find?_eq_none];intro p o;obtain ⟨j,e,rfl⟩:=List.getElem_of_mem o
  simpa using h j e
 rw [this];rfl
theorem vD (s:List UInt8) (w:World) (ht:Z2 w) :
  Calls Tryz.prog 120 #[.string (za s)] w fun e w'=>e=.returned (.int .i64 (levelOf s))∧Below w.heap.size w w':=by
 have L:Hid (Z2 w):=ht;clear ht
 go_enter Tryz.func120,Tryz.ntmps120
 go_wp2_with (refine wpList_load_mid rfl 202 _ rfl 5 0 rfl yB _ L.out Tryz.underlying202 rfl XX ?_)
 have M:Hid (∀(wx:World) (i:Nat) (h:i<13),(Instr.index 202 levelsV (.int .i64 (i:Int))).run Tryz.prog wx=.ok (.agg #[.string (za (zA[i]'h).1),.int .i64 (zA[i]'h).2]) wx):=fun wx i h=>vC wx i h
 rw [show Value.agg yB.toArray=levelsV from rfl]
 generalize levelsV=A at *
 go_loopw [6] (fun x wr=>∃i:Nat,i≤13∧x=.int .i64 i∧(∀j (hj:j<13),j<i→(zA[j]'hj).1≠s)∧Below w.heap.size w wr) (fun x _=>13-(intOf x).toNat)
 case atStart=>exact ⟨0,Nat.zero_le _,rfl,fun j _ h=>by omega,Below.refl _ _⟩
 case round =>
  obtain ⟨i,N,rfl,y,z⟩:=hrel;have J:Hid (∀j (hj:j<13),j<i→(zA[j]'hj).1≠s):=y;have I:Hid (Below w.heap.size w wr):=z;have o:=z.size;clear y z
  by_cases hlt:i<13
  ·have G:=fun wx=>M.out wx i hlt
   obtain ⟨a,D⟩:∃a,a=(zA[i]'hlt).1:=⟨_,rfl⟩;obtain ⟨b,H⟩:∃b,b=(zA[i]'hlt).2:=⟨_,rfl⟩;rw [←D,←H] at G
   by_cases he:a=s
   ·have E:Hid (levelOf s=b):=show _=_ by rw [H];exact uJ hlt (by rw [←D,he])
    subst he;clear D H;go_wp2
    refine bodyPost_ret (v:=.int .i64 b) (by simp [results,Tryz.results120,go_sem]) rfl ⟨by rw [E.out],?_⟩
    exact I.out.alloc o _
   ·have E:Hid ((zA[i]'hlt).1≠s):=show _≠s by rw [←D];exact he
    have K:(a==s)=false:=by rw [beq_eq_false_iff_ne];exact he
    clear D H he;go_wp2
    refine ⟨⟨i+1,by omega,by go_num,fun j hj hji=>?_,I.out.alloc o _⟩,by simp [intOf];omega⟩
    by_cases h:j<i
    ·exact J.out j hj h
    ·obtain rfl:j=i:=by omega
     exact E.out
  ·obtain rfl:i=13:=by omega
   have E:Hid (levelOf s=0):=VS (fun j hj=>J.out j hj hj)
   go_wp2
   refine bodyPost_ret (v:=.int .i64 0) (by simp [results,Tryz.results120,go_sem]) rfl ⟨by rw [E.out];rfl,?_⟩
   exact I.out
theorem Y7 (s:List UInt8) (w:World) :
  Calls Tryz.prog 146 #[.string (za s)] w fun e w'=>e=.returned (.bool (s==[45]||s==[33]))∧w'=w:=by
 go_enter Tryz.func146,Tryz.ntmps146
 go_wp2
 all_goals simp_all [bodyPost,results,Tryz.results146]
inductive Ex where
 | mk (k:Nat) (s:List UInt8) (n:Int) (kids:List Ex) (line:Nat)
inductive zB (S:Nat→Prop) (w:World):Ex→Value→Prop where
 | leaf (k:Nat) (s:List UInt8) (n:Int) (line:Nat):zB S w (.mk k s n [] line) (.agg #[.int .i64 k,.string (za s),.int .i64 n,.slice none 0 0,.int .i64 line])
 | node (k:Nat) (s:List UInt8) (n:Int) (kids:List Ex) (line g cap:Nat) (us:List (List Value)) (hne:kids≠[]) (hlen:us.length=kids.length) (hB:S g) (hg:g<w.heap.size) (hc:kids.length≤cap) (hm:cap≤maxLen)
   (hcell:∀j u,us.flatten[j]?=some u→w.cell? ⟨g,j,none⟩=some u) (hfive:∀c∈us,c.length=5)
   (hk:∀(j:Nat) (x:Ex) (c:List Value),kids[j]?=some x→us[j]?=some c→zB S w x (.agg c.toArray)) :
   zB S w (.mk k s n kids line) (.agg #[.int .i64 k,.string (za s),.int .i64 n,.slice (some ⟨g,0,none⟩) kids.length cap,.int .i64 line])
abbrev zQ (B:Nat) (w:World) (x:Ex) (v:Value):Prop:=zB (fun k=>B≤k) w x v
theorem zB.kept {S:Nat→Prop} {w w':World} {x:Ex} {v:Value} (h:zB S w x v) (hs:w.heap.size≤w'.heap.size) (hb:∀k,S k→k<w.heap.size→w'.heap[k]?=w.heap[k]?):zB S w' x v:=by
 induction h with
 | leaf k s n line=>exact .leaf k s n line
 | node k s n kids line g cap us hne hlen hB hg hc hm hcell hfive _ ih =>
  refine .node k s n kids line g cap us hne hlen hB (Nat.lt_of_lt_of_le hg hs) hc hm (fun j u hj=>?_) hfive (fun j x c hx hc'=>ih j x c hx hc')
  rw [World.cell?_of_block (hb g hB hg)];exact hcell j u hj
theorem zB.wide {S S':Nat→Prop} {w:World} {x:Ex} {v:Value} (h:zB S w x v) (hS:∀k,S k→S' k):zB S' w x v:=by
 induction h with
 | leaf k s n line=>exact .leaf k s n line
 | node k s n kids line g cap us hne hlen hB hg hc hm hcell hfive _ ih=>exact .node k s n kids line g cap us hne hlen (hS _ hB) hg hc hm hcell hfive ih
theorem zB.low {S:Nat→Prop} {w:World} {x:Ex} {v:Value} (h:zB S w x v):zB (fun k=>S k∧k<w.heap.size) w x v:=by
 induction h with
 | leaf k s n line=>exact .leaf k s n line
 | node k s n kids line g cap us hne hlen hB hg hc hm hcell hfive _ ih=>exact .node k s n kids line g cap us hne hlen ⟨hB,hg⟩ hg hc hm hcell hfive ih
theorem zQ.kept {B:Nat} {w w':World} {x:Ex} {v:Value} (h:zQ B w x v) (hs:w.heap.size≤w'.heap.size) (hb:∀k,B≤k→k<w.heap.size→w'.heap[k]?=w.heap[k]?):zQ B w' x v:=zB.kept h hs hb
def Ex.line:Ex→Nat | .mk _ _ _ _ l=>l
def Ex.kind:Ex→Nat | .mk k _ _ _ _=>k
def zM:List Tk→Tk | t::_=>t | []=>⟨0,[],0,0,0⟩
abbrev PR (α:Type):=Except Nat (α × List Tk)
def zo {α β:Type} (x:Option (PR α)) (k:α→List Tk→Option (PR β)):Option (PR β) :=
 match x with
 | none=>none
 | some (.error a)=>some (.error a)
 | some (.ok (y,ts))=>k y ts
def Zj (s:List UInt8) (ts:List Tk):Option (PR Unit):=some (if zp (zM ts) s=true then .ok ((),ts.tail) else .error (zM ts).at0)
def Yg (ts:List Tk):Option (PR (List UInt8)):=some (if (zM ts).k=1 then .ok ((zM ts).s,ts.tail) else .error (zM ts).at0)
mutual
def zd:Nat→Nat→List Tk→Option (PR Ex)
 | 0,_,_=>none
 | f+1,least,ts=>if 6<least then zW f ts else zo (zd f (least+1) ts) fun e ts=>zV f least e ts
def zV:Nat→Nat→Ex→List Tk→Option (PR Ex)
 | 0,_,_,_=>none
 | f+1,least,e,ts=>if (zM ts).k=4∧levelOf (zM ts).s=least then zo (zd f (least+1) ts.tail) fun e2 ts'=>zV f least (.mk 7 (zM ts).s 0 [e,e2] e.line) ts' else some (.ok (e,ts))
def zW:Nat→List Tk→Option (PR Ex)
 | 0,_=>none
 | f+1,ts=>if (zM ts).k=4∧((zM ts).s=[45]∨(zM ts).s=[33]) then zo (zW f ts.tail) fun e ts'=>some (.ok (.mk 6 (zM ts).s 0 [e] (zM ts).line,ts')) else zo (zw f ts) fun e ts=>zm f e ts
def zm:Nat→Ex→List Tk→Option (PR Ex)
 | 0,_,_=>none
 | f+1,e,ts =>
  if zp (zM ts) [91]=true then zo (zd f 1 ts.tail) fun i ts=>zo (Zj [93] ts) fun _ ts=>zm f (.mk 8 [] 0 [e,i] e.line) ts
  else if zp (zM ts) [46]=true then zo (Yg ts.tail) fun s ts=>zm f (.mk 9 s 0 [e] e.line) ts
  else some (.ok (e,ts))
def zw:Nat→List Tk→Option (PR Ex)
 | 0,_=>none
 | f+1,ts =>
  if (zM ts).k=2 then some (.ok (.mk 1 [] (zM ts).n [] (zM ts).line,ts.tail))
  else if (zM ts).k=3 then some (.ok (.mk 3 (zM ts).s 0 [] (zM ts).line,ts.tail))
  else if (zM ts).k=1 then
   if zp (zM ts.tail) [40]=true then zo (zx f ts.tail) fun l ts'=>some (.ok (.mk 5 (zM ts).s 0 l (zM ts).line,ts')) else some (.ok (.mk 4 (zM ts).s 0 [] (zM ts).line,ts.tail))
  else if zp (zM ts) [116,114,117,101]=true then some (.ok (.mk 2 [] 1 [] (zM ts).line,ts.tail))
  else if zp (zM ts) [102,97,108,115,101]=true then some (.ok (.mk 2 [] 0 [] (zM ts).line,ts.tail))
  else if zp (zM ts) [110,101,119]=true then zo (Yg ts.tail) fun s ts'=>zo (zx f ts') fun l ts'=>some (.ok (.mk 11 s 0 l (zM ts).line,ts'))
  else if zp (zM ts) [91]=true then zo (ZJ f [] ts.tail) fun l ts'=>zo (Zj [93] ts') fun _ ts'=>some (.ok (.mk 10 [] 0 l (zM ts).line,ts'))
  else zo (Zj [40] ts) fun _ ts=>zo (zd f 1 ts) fun e ts=>zo (Zj [41] ts) fun _ ts=>some (.ok (e,ts))
def ZJ:Nat→List Ex→List Tk→Option (PR (List Ex))
 | 0,_,_=>none
 | f+1,pre,ts=>zo (zd f 1 ts) fun e ts=>if zp (zM ts) [44]=true then ZJ f (pre++[e]) ts.tail else some (.ok (pre++[e],ts))
def zx:Nat→List Tk→Option (PR (List Ex))
 | 0,_=>none
 | f+1,ts=>zo (Zj [40] ts) fun _ ts=>if zp (zM ts) [41]=true then some (.ok ([],ts.tail)) else zo (ZJ f [] ts) fun l ts=>zo (Zj [41] ts) fun _ ts=>some (.ok (l,ts))
end
theorem zz {α β:Type} {x y:Option (PR α)} {k l:α→List Tk→Option (PR β)} {r:PR β} (h:zo x k=some r) (hx:∀r,x=some r→y=some r) (hk:∀a ts r,k a ts=some r→l a ts=some r):zo y l=some r:=by
 unfold zo at h ⊢
 cases x with
 | none=>cases h
 | some x =>
  rw [hx x rfl];cases x with
  | error a=>exact h
  | ok p=>exact hk _ _ _ h
theorem vE (f:Nat) :
  (∀least ts r,zd f least ts=some r→zd (f+1) least ts=some r)∧(∀least e ts r,zV f least e ts=some r→zV (f+1) least e ts=some r) ∧
  (∀ts r,zW f ts=some r→zW (f+1) ts=some r)∧(∀e ts r,zm f e ts=some r→zm (f+1) e ts=some r)∧(∀ts r,zw f ts=some r→zw (f+1) ts=some r) ∧
  (∀pre ts r,ZJ f pre ts=some r→ZJ (f+1) pre ts=some r)∧(∀ts r,zx f ts=some r→zx (f+1) ts=some r):=by
 induction f with
 | zero=>refine ⟨?_,?_,?_,?_,?_,?_,?_⟩ <;> intros <;> rename_i h <;> simp [zd,zV,zW,zm,zw,ZJ,zx] at h
 | succ f ih =>
  obtain ⟨i1,E,A,y,G,z,D⟩:=ih;refine ⟨fun least ts r h=>?_,fun least e ts r h=>?_,fun ts r h=>?_,fun e ts r h=>?_,fun ts r h=>?_,fun pre ts r h=>?_,fun ts r h=>?_⟩
  ·rw [zd] at h ⊢
   split at h
   ·rename_i o;rw [if_pos o];exact A _ _ h
   ·rename_i o;rw [if_neg o];exact zz h (i1 _ _) fun a ts r=>E _ _ _ _
  ·rw [zV] at h ⊢
   split at h
   ·rename_i o;rw [if_pos o];exact zz h (i1 _ _) fun a ts r=>E _ _ _ _
   ·rename_i o;rw [if_neg o];exact h
  ·rw [zW] at h ⊢
   split at h
   ·rename_i o;rw [if_pos o];exact zz h (A _) fun a ts r h=>h
   ·rename_i o;rw [if_neg o];exact zz h (G _) fun a ts r=>y _ _ _
  ·rw [zm] at h ⊢
   split at h
   ·rename_i o;rw [if_pos o];exact zz h (i1 _ _) fun a ts r h=>zz h (fun _ h=>h) fun a ts r=>y _ _ _
   ·rename_i o;rw [if_neg o]
    split at h
    ·rename_i o;rw [if_pos o];exact zz h (fun _ h=>h) fun a ts r=>y _ _ _
    ·rename_i o;rw [if_neg o];exact h
  ·rw [zw] at h ⊢
   repeat' split at h
   all_goals simp_all only [if_true,if_false,Bool.false_eq_true]
   all_goals first
    | exact h
    | exact zz h (D _) fun a ts r h=>h
    | exact zz h (fun _ h=>h) fun a ts r h=>zz h (D _) fun a ts r h=>h
    | exact zz h (z _ _) fun a ts r h=>zz h (fun _ h=>h) fun a ts r h=>h
    | exact zz h (fun _ h=>h) fun a ts r h=>zz h (i1 _ _) fun a ts r h=>zz h (fun _ h=>h) fun a ts r h=>h
  ·rw [ZJ] at h ⊢
   refine zz h (i1 _ _) fun a ts r h=>?_
   split at h
   ·rename_i o;rw [if_pos o];exact z _ _ _ h
   ·rename_i o;rw [if_neg o];exact h
  ·rw [zx] at h ⊢
   refine zz h (fun _ h=>h) fun a ts r h=>?_
   split at h
   ·rename_i o;rw [if_pos o];exact h
   ·rename_i o;rw [if_neg o];exact zz h (z _ _) fun a ts r h=>h
end Go.Proofs.YtmbofhpmockmbaaGreatDoor
