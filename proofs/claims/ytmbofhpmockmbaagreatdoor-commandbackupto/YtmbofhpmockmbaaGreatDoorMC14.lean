import Derived.Test.YtmbofhpmockmbaaGreatDoorMC13
import Derived.Test.YtmbofhpmockmbaaGreatDoorXTk
namespace Go.Proofs.YtmbofhpmockmbaaGreatDoor
open Go.RowKit Go.Shelf
set_option maxHeartbeats 16000000
set_option maxRecDepth 100000
def zx:List (List UInt8 × Nat):=[([124,124],1),([38,38],2),([61,61],3),([33,61],3),([60],4),([60,61],4),([62],4),([62,61],4),([43],5),([45],5),([42],6),([47],6),([37],6)]
def levelOf (s:List UInt8):Nat:=((zx.find? fun p=>decide (p.1=s)).map (·.2)).getD 0
def Z9:List Value:=zx.flatMap fun p=>[.string (za p.1),.int .i64 p.2]
def levelsV:Value:=.agg Z9.toArray
def ZL (w:World):Prop:=w.rangeAt 5 0 Z9
theorem xO:(Tryz.prog.info? 202).map (·.size)=some Z9.length:=by kernel_rfl
theorem Xp (w:World) (i:Nat) (h:i<13):(Instr.index 202 levelsV (.int .i64 (i:Int))).run Tryz.prog w=.ok (.agg #[.string (za (zx[i]'h).1),.int .i64 (zx[i]'h).2]) w:=by
 have e:i=0∨i=1∨i=2∨i=3∨i=4∨i=5∨i=6∨i=7∨i=8∨i=9∨i=10∨i=11∨i=12:=by omega
 rcases e with rfl | rfl | rfl | rfl | rfl | rfl | rfl | rfl | rfl | rfl | rfl | rfl | rfl
 all_goals rfl
theorem Vc {s:List UInt8} {i:Nat} (h:i<zx.length) (he:(zx[i]'h).1=s):levelOf s=(zx[i]'h).2:=by
 subst he;have e:∀j (hj:j<zx.length),levelOf (zx[j]'hj).1=(zx[j]'hj).2:=by decide
 exact e i h
theorem vr {s:List UInt8} (h:∀j (e:j<zx.length),(zx[j]'e).1≠s):levelOf s=0:=by
 unfold levelOf
 have:zx.find? (fun p=>decide (p.1=s))=none:=by
  rw [List.find?_eq_none];intro p o;obtain ⟨j,e,rfl⟩:=List.getElem_of_mem o
  simpa using h j e
 rw [this];rfl
theorem Xq (s:List UInt8) (w:World) (ht:ZL w) :
  Calls Tryz.prog 120 #[.string (za s)] w fun e w'=>e=.returned (.int .i64 (levelOf s))∧Below w.heap.size w w':=by
 have L:Hid (ZL w):=ht;clear ht
 go_enter Tryz.func120,Tryz.ntmps120
 go_wp2_with (refine wpList_load_mid rfl 202 _ rfl 5 0 rfl Z9 _ L.out Tryz.underlying202 rfl xO ?_)
 have K:Hid (∀(wx:World) (i:Nat) (h:i<13),(Instr.index 202 levelsV (.int .i64 (i:Int))).run Tryz.prog wx=.ok (.agg #[.string (za (zx[i]'h).1),.int .i64 (zx[i]'h).2]) wx):=fun wx i h=>Xp wx i h
 rw [show Value.agg Z9.toArray=levelsV from rfl]
 generalize levelsV=A at *
 go_loopw [6] (fun x wr=>∃i:Nat,i≤13∧x=.int .i64 i∧(∀j (hj:j<13),j<i→(zx[j]'hj).1≠s)∧Below w.heap.size w wr) (fun x _=>13-(intOf x).toNat)
 case atStart=>exact ⟨0,Nat.zero_le _,rfl,fun j _ h=>by omega,Below.refl _ _⟩
 case round =>
  obtain ⟨i,N,rfl,y,z⟩:=hrel;have J:Hid (∀j (hj:j<13),j<i→(zx[j]'hj).1≠s):=y;have I:Hid (Below w.heap.size w wr):=z;have o:=z.size;clear y z
  by_cases hlt:i<13
  ·have D:=fun wx=>K.out wx i hlt
   obtain ⟨a,G⟩:∃a,a=(zx[i]'hlt).1:=⟨_,rfl⟩;obtain ⟨b,H⟩:∃b,b=(zx[i]'hlt).2:=⟨_,rfl⟩;rw [←G,←H] at D
   by_cases he:a=s
   ·have E:Hid (levelOf s=b):=show _=_ by rw [H];exact Vc hlt (by rw [←G,he])
    subst he;clear G H;go_wp2
    refine bodyPost_ret (v:=.int .i64 b) (by simp [results,Tryz.results120,go_sem]) rfl ⟨by rw [E.out],?_⟩
    exact I.out.alloc o _
   ·have E:Hid ((zx[i]'hlt).1≠s):=show _≠s by rw [←G];exact he
    have M:(a==s)=false:=by rw [beq_eq_false_iff_ne];exact he
    clear G H he;go_wp2
    refine ⟨⟨i+1,by omega,by go_num,fun j hj hji=>?_,I.out.alloc o _⟩,by simp [intOf];omega⟩
    by_cases h:j<i
    ·exact J.out j hj h
    ·obtain rfl:j=i:=by omega
     exact E.out
  ·obtain rfl:i=13:=by omega
   have E:Hid (levelOf s=0):=vr (fun j hj=>J.out j hj hj)
   go_wp2
   refine bodyPost_ret (v:=.int .i64 0) (by simp [results,Tryz.results120,go_sem]) rfl ⟨by rw [E.out];rfl,?_⟩
   exact I.out
theorem Yp (s:List UInt8) (w:World) :
  Calls Tryz.prog 146 #[.string (za s)] w fun e w'=>e=.returned (.bool (s==[45]||s==[33]))∧w'=w:=by
 go_enter Tryz.func146,Tryz.ntmps146
 go_wp2
 all_goals simp_all [bodyPost,results,Tryz.results146]
inductive Ex where
 | mk (k:Nat) (s:List UInt8) (n:Int) (kids:List Ex) (line:Nat)
inductive zy (S:Nat→Prop) (w:World):Ex→Value→Prop where
 | leaf (k:Nat) (s:List UInt8) (n:Int) (line:Nat):zy S w (.mk k s n [] line) (.agg #[.int .i64 k,.string (za s),.int .i64 n,.slice none 0 0,.int .i64 line])
 | node (k:Nat) (s:List UInt8) (n:Int) (kids:List Ex) (line g cap:Nat) (us:List (List Value)) (hne:kids≠[]) (hlen:us.length=kids.length) (hB:S g) (hg:g<w.heap.size) (hc:kids.length≤cap) (hm:cap≤maxLen)
   (hcell:∀j u,us.flatten[j]?=some u→w.cell? ⟨g,j,none⟩=some u) (hfive:∀c∈us,c.length=5)
   (hk:∀(j:Nat) (x:Ex) (c:List Value),kids[j]?=some x→us[j]?=some c→zy S w x (.agg c.toArray)) :
   zy S w (.mk k s n kids line) (.agg #[.int .i64 k,.string (za s),.int .i64 n,.slice (some ⟨g,0,none⟩) kids.length cap,.int .i64 line])
abbrev zM (B:Nat) (w:World) (x:Ex) (v:Value):Prop:=zy (fun k=>B≤k) w x v
theorem zy.kept {S:Nat→Prop} {w w':World} {x:Ex} {v:Value} (h:zy S w x v) (hs:w.heap.size≤w'.heap.size) (hb:∀k,S k→k<w.heap.size→w'.heap[k]?=w.heap[k]?):zy S w' x v:=by
 induction h with
 | leaf k s n line=>exact .leaf k s n line
 | node k s n kids line g cap us hne hlen hB hg hc hm hcell hfive _ ih =>
  refine .node k s n kids line g cap us hne hlen hB (Nat.lt_of_lt_of_le hg hs) hc hm (fun j u hj=>?_) hfive (fun j x c hx hc'=>ih j x c hx hc')
  rw [World.cell?_of_block (hb g hB hg)];exact hcell j u hj
theorem zy.wide {S S':Nat→Prop} {w:World} {x:Ex} {v:Value} (h:zy S w x v) (hS:∀k,S k→S' k):zy S' w x v:=by
 induction h with
 | leaf k s n line=>exact .leaf k s n line
 | node k s n kids line g cap us hne hlen hB hg hc hm hcell hfive _ ih=>exact .node k s n kids line g cap us hne hlen (hS _ hB) hg hc hm hcell hfive ih
theorem zy.low {S:Nat→Prop} {w:World} {x:Ex} {v:Value} (h:zy S w x v):zy (fun k=>S k∧k<w.heap.size) w x v:=by
 induction h with
 | leaf k s n line=>exact .leaf k s n line
 | node k s n kids line g cap us hne hlen hB hg hc hm hcell hfive _ ih=>exact .node k s n kids line g cap us hne hlen ⟨hB,hg⟩ hg hc hm hcell hfive ih
theorem zM.kept {B:Nat} {w w':World} {x:Ex} {v:Value} (h:zM B w x v) (hs:w.heap.size≤w'.heap.size) (hb:∀k,B≤k→k<w.heap.size→w'.heap[k]?=w.heap[k]?):zM B w' x v:=zy.kept h hs hb
def Ex.line:Ex→Nat | .mk _ _ _ _ l=>l
def Ex.kind:Ex→Nat | .mk k _ _ _ _=>k
def zK:List Tk→Tk | t::_=>t | []=>⟨0,[],0,0,0⟩
abbrev PR (α:Type):=Except Nat (α × List Tk)
def zm {α β:Type} (x:Option (PR α)) (k:α→List Tk→Option (PR β)):Option (PR β) :=
 match x with
 | none=>none
 | some (.error a)=>some (.error a)
 | some (.ok (y,ts))=>k y ts
def Zb (s:List UInt8) (ts:List Tk):Option (PR Unit):=some (if zn (zK ts) s=true then .ok ((),ts.tail) else .error (zK ts).at0)
def yF (ts:List Tk):Option (PR (List UInt8)):=some (if (zK ts).k=1 then .ok ((zK ts).s,ts.tail) else .error (zK ts).at0)
mutual
def zd:Nat→Nat→List Tk→Option (PR Ex)
 | 0,_,_=>none
 | f+1,least,ts=>if 6<least then zQ f ts else zm (zd f (least+1) ts) fun e ts=>zP f least e ts
def zP:Nat→Nat→Ex→List Tk→Option (PR Ex)
 | 0,_,_,_=>none
 | f+1,least,e,ts=>if (zK ts).k=4∧levelOf (zK ts).s=least then zm (zd f (least+1) ts.tail) fun e2 ts'=>zP f least (.mk 7 (zK ts).s 0 [e,e2] e.line) ts' else some (.ok (e,ts))
def zQ:Nat→List Tk→Option (PR Ex)
 | 0,_=>none
 | f+1,ts=>if (zK ts).k=4∧((zK ts).s=[45]∨(zK ts).s=[33]) then zm (zQ f ts.tail) fun e ts'=>some (.ok (.mk 6 (zK ts).s 0 [e] (zK ts).line,ts')) else zm (zt f ts) fun e ts=>zk f e ts
def zk:Nat→Ex→List Tk→Option (PR Ex)
 | 0,_,_=>none
 | f+1,e,ts =>
  if zn (zK ts) [91]=true then zm (zd f 1 ts.tail) fun i ts=>zm (Zb [93] ts) fun _ ts=>zk f (.mk 8 [] 0 [e,i] e.line) ts
  else if zn (zK ts) [46]=true then zm (yF ts.tail) fun s ts=>zk f (.mk 9 s 0 [e] e.line) ts
  else some (.ok (e,ts))
def zt:Nat→List Tk→Option (PR Ex)
 | 0,_=>none
 | f+1,ts =>
  if (zK ts).k=2 then some (.ok (.mk 1 [] (zK ts).n [] (zK ts).line,ts.tail))
  else if (zK ts).k=3 then some (.ok (.mk 3 (zK ts).s 0 [] (zK ts).line,ts.tail))
  else if (zK ts).k=1 then
   if zn (zK ts.tail) [40]=true then zm (zu f ts.tail) fun l ts'=>some (.ok (.mk 5 (zK ts).s 0 l (zK ts).line,ts')) else some (.ok (.mk 4 (zK ts).s 0 [] (zK ts).line,ts.tail))
  else if zn (zK ts) [116,114,117,101]=true then some (.ok (.mk 2 [] 1 [] (zK ts).line,ts.tail))
  else if zn (zK ts) [102,97,108,115,101]=true then some (.ok (.mk 2 [] 0 [] (zK ts).line,ts.tail))
  else if zn (zK ts) [110,101,119]=true then zm (yF ts.tail) fun s ts'=>zm (zu f ts') fun l ts'=>some (.ok (.mk 11 s 0 l (zK ts).line,ts'))
  else if zn (zK ts) [91]=true then zm (Zu f [] ts.tail) fun l ts'=>zm (Zb [93] ts') fun _ ts'=>some (.ok (.mk 10 [] 0 l (zK ts).line,ts'))
  else zm (Zb [40] ts) fun _ ts=>zm (zd f 1 ts) fun e ts=>zm (Zb [41] ts) fun _ ts=>some (.ok (e,ts))
def Zu:Nat→List Ex→List Tk→Option (PR (List Ex))
 | 0,_,_=>none
 | f+1,pre,ts=>zm (zd f 1 ts) fun e ts=>if zn (zK ts) [44]=true then Zu f (pre++[e]) ts.tail else some (.ok (pre++[e],ts))
def zu:Nat→List Tk→Option (PR (List Ex))
 | 0,_=>none
 | f+1,ts=>zm (Zb [40] ts) fun _ ts=>if zn (zK ts) [41]=true then some (.ok ([],ts.tail)) else zm (Zu f [] ts) fun l ts=>zm (Zb [41] ts) fun _ ts=>some (.ok (l,ts))
end
theorem zw {α β:Type} {x y:Option (PR α)} {k l:α→List Tk→Option (PR β)} {r:PR β} (h:zm x k=some r) (hx:∀r,x=some r→y=some r) (hk:∀a ts r,k a ts=some r→l a ts=some r):zm y l=some r:=by
 unfold zm at h ⊢
 cases x with
 | none=>cases h
 | some x =>
  rw [hx x rfl];cases x with
  | error a=>exact h
  | ok p=>exact hk _ _ _ h
theorem Xr (f:Nat) :
  (∀least ts r,zd f least ts=some r→zd (f+1) least ts=some r)∧(∀least e ts r,zP f least e ts=some r→zP (f+1) least e ts=some r) ∧
  (∀ts r,zQ f ts=some r→zQ (f+1) ts=some r)∧(∀e ts r,zk f e ts=some r→zk (f+1) e ts=some r)∧(∀ts r,zt f ts=some r→zt (f+1) ts=some r) ∧
  (∀pre ts r,Zu f pre ts=some r→Zu (f+1) pre ts=some r)∧(∀ts r,zu f ts=some r→zu (f+1) ts=some r):=by
 induction f with
 | zero=>refine ⟨?_,?_,?_,?_,?_,?_,?_⟩ <;> intros <;> rename_i h <;> simp [zd,zP,zQ,zk,zt,Zu,zu] at h
 | succ f ih =>
  obtain ⟨i1,z,A,y,E,x,D⟩:=ih;refine ⟨fun least ts r h=>?_,fun least e ts r h=>?_,fun ts r h=>?_,fun e ts r h=>?_,fun ts r h=>?_,fun pre ts r h=>?_,fun ts r h=>?_⟩
  ·rw [zd] at h ⊢
   split at h
   ·rename_i o;rw [if_pos o];exact A _ _ h
   ·rename_i o;rw [if_neg o];exact zw h (i1 _ _) fun a ts r=>z _ _ _ _
  ·rw [zP] at h ⊢
   split at h
   ·rename_i o;rw [if_pos o];exact zw h (i1 _ _) fun a ts r=>z _ _ _ _
   ·rename_i o;rw [if_neg o];exact h
  ·rw [zQ] at h ⊢
   split at h
   ·rename_i o;rw [if_pos o];exact zw h (A _) fun a ts r h=>h
   ·rename_i o;rw [if_neg o];exact zw h (E _) fun a ts r=>y _ _ _
  ·rw [zk] at h ⊢
   split at h
   ·rename_i o;rw [if_pos o];exact zw h (i1 _ _) fun a ts r h=>zw h (fun _ h=>h) fun a ts r=>y _ _ _
   ·rename_i o;rw [if_neg o]
    split at h
    ·rename_i o;rw [if_pos o];exact zw h (fun _ h=>h) fun a ts r=>y _ _ _
    ·rename_i o;rw [if_neg o];exact h
  ·rw [zt] at h ⊢
   repeat' split at h
   all_goals simp_all only [if_true,if_false,Bool.false_eq_true]
   all_goals first
    | exact h
    | exact zw h (D _) fun a ts r h=>h
    | exact zw h (fun _ h=>h) fun a ts r h=>zw h (D _) fun a ts r h=>h
    | exact zw h (x _ _) fun a ts r h=>zw h (fun _ h=>h) fun a ts r h=>h
    | exact zw h (fun _ h=>h) fun a ts r h=>zw h (i1 _ _) fun a ts r h=>zw h (fun _ h=>h) fun a ts r h=>h
  ·rw [Zu] at h ⊢
   refine zw h (i1 _ _) fun a ts r h=>?_
   split at h
   ·rename_i o;rw [if_pos o];exact x _ _ _ h
   ·rename_i o;rw [if_neg o];exact h
  ·rw [zu] at h ⊢
   refine zw h (fun _ h=>h) fun a ts r h=>?_
   split at h
   ·rename_i o;rw [if_pos o];exact h
   ·rename_i o;rw [if_neg o];exact zw h (x _ _) fun a ts r h=>h
end Go.Proofs.YtmbofhpmockmbaaGreatDoor
