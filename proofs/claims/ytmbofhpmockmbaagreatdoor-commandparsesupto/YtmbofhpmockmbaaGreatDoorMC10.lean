import Derived.Test.YtmbofhpmockmbaaGreatDoorMC9
import Derived.Test.YtmbofhpmockmbaaGreatDoorXTk
import Derived.Test.YtmbofhpmockmbaaGreatDoorMC21
import Derived.Test.YtmbofhpmockmbaaGreatDoorMC4
namespace Go.Proofs.YtmbofhpmockmbaaGreatDoor
open Go.RowKit Go.Shelf
set_option maxHeartbeats 16000000
set_option maxRecDepth 100000
def levelsL:List (List UInt8 × Nat):=[([124,124],1),([38,38],2),([61,61],3),([33,61],3),([60],4),([60,61],4),([62],4),([62,61],4),([43],5),([45],5),([42],6),([47],6),([37],6)]
def levelOf (s:List UInt8):Nat:=((levelsL.find? fun p=>decide (p.1=s)).map (·.2)).getD 0
def YD:List Value:=levelsL.flatMap fun p=>[.string (za p.1),.int .i64 p.2]
def levelsV:Value:=.agg YD.toArray
def yL (w:World):Prop:=w.rangeAt 5 0 YD
theorem ux:(Tryz.prog.info? 202).map (·.size)=some YD.length:=by kernel_rfl
theorem Ut (w:World) (i:Nat) (h:i<13):(Instr.index 202 levelsV (.int .i64 (i:Int))).run Tryz.prog w=.ok (.agg #[.string (za (levelsL[i]'h).1),.int .i64 (levelsL[i]'h).2]) w:=by
 have e:i=0∨i=1∨i=2∨i=3∨i=4∨i=5∨i=6∨i=7∨i=8∨i=9∨i=10∨i=11∨i=12:=by omega
 rcases e with rfl | rfl | rfl | rfl | rfl | rfl | rfl | rfl | rfl | rfl | rfl | rfl | rfl
 all_goals rfl
theorem QH {s:List UInt8} {i:Nat} (h:i<levelsL.length) (he:(levelsL[i]'h).1=s):levelOf s=(levelsL[i]'h).2:=by
 subst he;have e:∀j (hj:j<levelsL.length),levelOf (levelsL[j]'hj).1=(levelsL[j]'hj).2:=by decide
 exact e i h
theorem qI {s:List UInt8} (h:∀j (e:j<levelsL.length),(levelsL[j]'e).1≠s):levelOf s=0:=by
 unfold levelOf
 have:levelsL.find? (fun p=>decide (p.1=s))=none:=by
  rw [List.find?_eq_none];intro p o;obtain ⟨j,e,rfl⟩:=List.getElem_of_mem o
  simpa using h j e
 rw [this];rfl
theorem Uu (s:List UInt8) (w:World) (ht:yL w) :
  Calls Tryz.prog 120 #[.string (za s)] w fun e w'=>e=.returned (.int .i64 (levelOf s))∧Below w.heap.size w w':=by
 have K:Hid (yL w):=ht;clear ht
 go_enter Tryz.func120,Tryz.ntmps120
 go_wp2_with (refine wpList_load_mid rfl 202 _ rfl 5 0 rfl YD _ K.out Tryz.underlying202 rfl ux ?_)
 have M:Hid (∀(wx:World) (i:Nat) (h:i<13),(Instr.index 202 levelsV (.int .i64 (i:Int))).run Tryz.prog wx=.ok (.agg #[.string (za (levelsL[i]'h).1),.int .i64 (levelsL[i]'h).2]) wx):=fun wx i h=>Ut wx i h
 rw [show Value.agg YD.toArray=levelsV from rfl]
 generalize levelsV=A at *
 go_loopw [6] (fun x wr=>∃i:Nat,i≤13∧x=.int .i64 i∧(∀j (hj:j<13),j<i→(levelsL[j]'hj).1≠s)∧Below w.heap.size w wr) (fun x _=>13-(intOf x).toNat)
 case atStart=>exact ⟨0,Nat.zero_le _,rfl,fun j _ h=>by omega,Below.refl _ _⟩
 case round =>
  obtain ⟨i,N,rfl,o,z⟩:=hrel;have J:Hid (∀j (hj:j<13),j<i→(levelsL[j]'hj).1≠s):=o;have I:Hid (Below w.heap.size w wr):=z;have y:=z.size;clear o z
  by_cases hlt:i<13
  ·have G:=fun wx=>M.out wx i hlt
   obtain ⟨a,E⟩:∃a,a=(levelsL[i]'hlt).1:=⟨_,rfl⟩;obtain ⟨b,H⟩:∃b,b=(levelsL[i]'hlt).2:=⟨_,rfl⟩;rw [←E,←H] at G
   by_cases he:a=s
   ·have D:Hid (levelOf s=b):=show _=_ by rw [H];exact QH hlt (by rw [←E,he])
    subst he;clear E H;go_wp2
    refine bodyPost_ret (v:=.int .i64 b) (by simp [results,Tryz.results120,go_sem]) rfl ⟨by rw [D.out],?_⟩
    exact I.out.alloc y _
   ·have D:Hid ((levelsL[i]'hlt).1≠s):=show _≠s by rw [←E];exact he
    have L:(a==s)=false:=by rw [beq_eq_false_iff_ne];exact he
    clear E H he;go_wp2
    refine ⟨⟨i+1,by omega,by go_num,fun j hj hji=>?_,I.out.alloc y _⟩,by simp [intOf];omega⟩
    by_cases h:j<i
    ·exact J.out j hj h
    ·obtain rfl:j=i:=by omega
     exact D.out
  ·obtain rfl:i=13:=by omega
   have D:Hid (levelOf s=0):=qI (fun j hj=>J.out j hj hj)
   go_wp2
   refine bodyPost_ret (v:=.int .i64 0) (by simp [results,Tryz.results120,go_sem]) rfl ⟨by rw [D.out];rfl,?_⟩
   exact I.out
theorem XR (s:List UInt8) (w:World) :
  Calls Tryz.prog 146 #[.string (za s)] w fun e w'=>e=.returned (.bool (s==[45]||s==[33]))∧w'=w:=by
 go_enter Tryz.func146,Tryz.ntmps146
 go_wp2
 all_goals simp_all [bodyPost,results,Tryz.results146]
inductive Ex where
 | mk (k:Nat) (s:List UInt8) (n:Int) (kids:List Ex) (line:Nat)
inductive zJ (S:Nat→Prop) (w:World):Ex→Value→Prop where
 | leaf (k:Nat) (s:List UInt8) (n:Int) (line:Nat):zJ S w (.mk k s n [] line) (.agg #[.int .i64 k,.string (za s),.int .i64 n,.slice none 0 0,.int .i64 line])
 | node (k:Nat) (s:List UInt8) (n:Int) (kids:List Ex) (line g cap:Nat) (us:List (List Value)) (hne:kids≠[]) (hlen:us.length=kids.length) (hB:S g) (hg:g<w.heap.size) (hc:kids.length≤cap) (hm:cap≤maxLen)
   (hcell:∀j u,us.flatten[j]?=some u→w.cell? ⟨g,j,none⟩=some u) (hfive:∀c∈us,c.length=5)
   (hk:∀(j:Nat) (x:Ex) (c:List Value),kids[j]?=some x→us[j]?=some c→zJ S w x (.agg c.toArray)) :
   zJ S w (.mk k s n kids line) (.agg #[.int .i64 k,.string (za s),.int .i64 n,.slice (some ⟨g,0,none⟩) kids.length cap,.int .i64 line])
abbrev zO (B:Nat) (w:World) (x:Ex) (v:Value):Prop:=zJ (fun k=>B≤k) w x v
theorem zJ.kept {S:Nat→Prop} {w w':World} {x:Ex} {v:Value} (h:zJ S w x v) (hs:w.heap.size≤w'.heap.size) (hb:∀k,S k→k<w.heap.size→w'.heap[k]?=w.heap[k]?):zJ S w' x v:=by
 induction h with
 | leaf k s n line=>exact .leaf k s n line
 | node k s n kids line g cap us hne hlen hB hg hc hm hcell hfive _ ih =>
  refine .node k s n kids line g cap us hne hlen hB (Nat.lt_of_lt_of_le hg hs) hc hm (fun j u hj=>?_) hfive (fun j x c hx hc'=>ih j x c hx hc')
  rw [World.cell?_of_block (hb g hB hg)];exact hcell j u hj
theorem zJ.wide {S S':Nat→Prop} {w:World} {x:Ex} {v:Value} (h:zJ S w x v) (hS:∀k,S k→S' k):zJ S' w x v:=by
 induction h with
 | leaf k s n line=>exact .leaf k s n line
 | node k s n kids line g cap us hne hlen hB hg hc hm hcell hfive _ ih=>exact .node k s n kids line g cap us hne hlen (hS _ hB) hg hc hm hcell hfive ih
theorem zJ.low {S:Nat→Prop} {w:World} {x:Ex} {v:Value} (h:zJ S w x v):zJ (fun k=>S k∧k<w.heap.size) w x v:=by
 induction h with
 | leaf k s n line=>exact .leaf k s n line
 | node k s n kids line g cap us hne hlen hB hg hc hm hcell hfive _ ih=>exact .node k s n kids line g cap us hne hlen ⟨hB,hg⟩ hg hc hm hcell hfive ih
theorem zO.kept {B:Nat} {w w':World} {x:Ex} {v:Value} (h:zO B w x v) (hs:w.heap.size≤w'.heap.size) (hb:∀k,B≤k→k<w.heap.size→w'.heap[k]?=w.heap[k]?):zO B w' x v:=zJ.kept h hs hb
def Ex.line:Ex→Nat | .mk _ _ _ _ l=>l
def Ex.kind:Ex→Nat | .mk k _ _ _ _=>k
def zx:List Tk→Tk | t::_=>t | []=>⟨0,[],0,0,0⟩
abbrev PR (α:Type):=Except Nat (α × List Tk)
def zq {α β:Type} (x:Option (PR α)) (k:α→List Tk→Option (PR β)):Option (PR β) :=
 match x with
 | none=>none
 | some (.error a)=>some (.error a)
 | some (.ok (y,ts))=>k y ts
def Zj (s:List UInt8) (ts:List Tk):Option (PR Unit):=some (if zm (zx ts) s=true then .ok ((),ts.tail) else .error (zx ts).at0)
def yI (ts:List Tk):Option (PR (List UInt8)):=some (if (zx ts).k=1 then .ok ((zx ts).s,ts.tail) else .error (zx ts).at0)
mutual
def zh:Nat→Nat→List Tk→Option (PR Ex)
 | 0,_,_=>none
 | f+1,least,ts=>if 6<least then zY f ts else zq (zh f (least+1) ts) fun e ts=>Za f least e ts
def Za:Nat→Nat→Ex→List Tk→Option (PR Ex)
 | 0,_,_,_=>none
 | f+1,least,e,ts=>if (zx ts).k=4∧levelOf (zx ts).s=least then zq (zh f (least+1) ts.tail) fun e2 ts'=>Za f least (.mk 7 (zx ts).s 0 [e,e2] e.line) ts' else some (.ok (e,ts))
def zY:Nat→List Tk→Option (PR Ex)
 | 0,_=>none
 | f+1,ts=>if (zx ts).k=4∧((zx ts).s=[45]∨(zx ts).s=[33]) then zq (zY f ts.tail) fun e ts'=>some (.ok (.mk 6 (zx ts).s 0 [e] (zx ts).line,ts')) else zq (zC f ts) fun e ts=>zr f e ts
def zr:Nat→Ex→List Tk→Option (PR Ex)
 | 0,_,_=>none
 | f+1,e,ts =>
  if zm (zx ts) [91]=true then zq (zh f 1 ts.tail) fun i ts=>zq (Zj [93] ts) fun _ ts=>zr f (.mk 8 [] 0 [e,i] e.line) ts
  else if zm (zx ts) [46]=true then zq (yI ts.tail) fun s ts=>zr f (.mk 9 s 0 [e] e.line) ts
  else some (.ok (e,ts))
def zC:Nat→List Tk→Option (PR Ex)
 | 0,_=>none
 | f+1,ts =>
  if (zx ts).k=2 then some (.ok (.mk 1 [] (zx ts).n [] (zx ts).line,ts.tail))
  else if (zx ts).k=3 then some (.ok (.mk 3 (zx ts).s 0 [] (zx ts).line,ts.tail))
  else if (zx ts).k=1 then
   if zm (zx ts.tail) [40]=true then zq (zy f ts.tail) fun l ts'=>some (.ok (.mk 5 (zx ts).s 0 l (zx ts).line,ts')) else some (.ok (.mk 4 (zx ts).s 0 [] (zx ts).line,ts.tail))
  else if zm (zx ts) [116,114,117,101]=true then some (.ok (.mk 2 [] 1 [] (zx ts).line,ts.tail))
  else if zm (zx ts) [102,97,108,115,101]=true then some (.ok (.mk 2 [] 0 [] (zx ts).line,ts.tail))
  else if zm (zx ts) [110,101,119]=true then zq (yI ts.tail) fun s ts'=>zq (zy f ts') fun l ts'=>some (.ok (.mk 11 s 0 l (zx ts).line,ts'))
  else if zm (zx ts) [91]=true then zq (ZS f [] ts.tail) fun l ts'=>zq (Zj [93] ts') fun _ ts'=>some (.ok (.mk 10 [] 0 l (zx ts).line,ts'))
  else zq (Zj [40] ts) fun _ ts=>zq (zh f 1 ts) fun e ts=>zq (Zj [41] ts) fun _ ts=>some (.ok (e,ts))
def ZS:Nat→List Ex→List Tk→Option (PR (List Ex))
 | 0,_,_=>none
 | f+1,pre,ts=>zq (zh f 1 ts) fun e ts=>if zm (zx ts) [44]=true then ZS f (pre++[e]) ts.tail else some (.ok (pre++[e],ts))
def zy:Nat→List Tk→Option (PR (List Ex))
 | 0,_=>none
 | f+1,ts=>zq (Zj [40] ts) fun _ ts=>if zm (zx ts) [41]=true then some (.ok ([],ts.tail)) else zq (ZS f [] ts) fun l ts=>zq (Zj [41] ts) fun _ ts=>some (.ok (l,ts))
end
theorem zP {α β:Type} {x y:Option (PR α)} {k l:α→List Tk→Option (PR β)} {r:PR β} (h:zq x k=some r) (hx:∀r,x=some r→y=some r) (hk:∀a ts r,k a ts=some r→l a ts=some r):zq y l=some r:=by
 unfold zq at h ⊢
 cases x with
 | none=>cases h
 | some x =>
  rw [hx x rfl];cases x with
  | error a=>exact h
  | ok p=>exact hk _ _ _ h
theorem Uv (f:Nat) :
  (∀least ts r,zh f least ts=some r→zh (f+1) least ts=some r)∧(∀least e ts r,Za f least e ts=some r→Za (f+1) least e ts=some r) ∧
  (∀ts r,zY f ts=some r→zY (f+1) ts=some r)∧(∀e ts r,zr f e ts=some r→zr (f+1) e ts=some r)∧(∀ts r,zC f ts=some r→zC (f+1) ts=some r) ∧
  (∀pre ts r,ZS f pre ts=some r→ZS (f+1) pre ts=some r)∧(∀ts r,zy f ts=some r→zy (f+1) ts=some r):=by
 induction f with
 | zero=>refine ⟨?_,?_,?_,?_,?_,?_,?_⟩ <;> intros <;> rename_i h <;> simp [zh,Za,zY,zr,zC,ZS,zy] at h
 | succ f ih =>
  obtain ⟨i1,A,D,z,G,y,E⟩:=ih;refine ⟨fun least ts r h=>?_,fun least e ts r h=>?_,fun ts r h=>?_,fun e ts r h=>?_,fun ts r h=>?_,fun pre ts r h=>?_,fun ts r h=>?_⟩
  ·rw [zh] at h ⊢
   split at h
   ·rename_i o;rw [if_pos o];exact D _ _ h
   ·rename_i o;rw [if_neg o];exact zP h (i1 _ _) fun a ts r=>A _ _ _ _
  ·rw [Za] at h ⊢
   split at h
   ·rename_i o;rw [if_pos o];exact zP h (i1 _ _) fun a ts r=>A _ _ _ _
   ·rename_i o;rw [if_neg o];exact h
  ·rw [zY] at h ⊢
   split at h
   ·rename_i o;rw [if_pos o];exact zP h (D _) fun a ts r h=>h
   ·rename_i o;rw [if_neg o];exact zP h (G _) fun a ts r=>z _ _ _
  ·rw [zr] at h ⊢
   split at h
   ·rename_i o;rw [if_pos o];exact zP h (i1 _ _) fun a ts r h=>zP h (fun _ h=>h) fun a ts r=>z _ _ _
   ·rename_i o;rw [if_neg o]
    split at h
    ·rename_i o;rw [if_pos o];exact zP h (fun _ h=>h) fun a ts r=>z _ _ _
    ·rename_i o;rw [if_neg o];exact h
  ·rw [zC] at h ⊢
   repeat' split at h
   all_goals simp_all only [if_true,if_false,Bool.false_eq_true]
   all_goals first
    | exact h
    | exact zP h (E _) fun a ts r h=>h
    | exact zP h (fun _ h=>h) fun a ts r h=>zP h (E _) fun a ts r h=>h
    | exact zP h (y _ _) fun a ts r h=>zP h (fun _ h=>h) fun a ts r h=>h
    | exact zP h (fun _ h=>h) fun a ts r h=>zP h (i1 _ _) fun a ts r h=>zP h (fun _ h=>h) fun a ts r h=>h
  ·rw [ZS] at h ⊢
   refine zP h (i1 _ _) fun a ts r h=>?_
   split at h
   ·rename_i o;rw [if_pos o];exact y _ _ _ h
   ·rename_i o;rw [if_neg o];exact h
  ·rw [zy] at h ⊢
   refine zP h (fun _ h=>h) fun a ts r h=>?_
   split at h
   ·rename_i o;rw [if_pos o];exact h
   ·rename_i o;rw [if_neg o];exact zP h (y _ _) fun a ts r h=>h
def xX (w:World):Prop:=uH w∧yL w∧Xp w
theorem xX.below {w w':World} (h:xX w) (hb:Below w.heap.size w w'):xX w':=by
 refine ⟨h.1.below hb (Nat.le_refl _),fun j v hj=>by rw [hb.cell (World.block_lt_of_cell? w _ (h.2.1 j v hj))];exact h.2.1 j v hj,?_⟩
 have:=h.2.2
 unfold Xp at this ⊢
 rw [hb.cell (World.block_lt_of_cell? w _ this)];exact this
def zbF:List (List (List UInt8)):=[[[124,124]],[[38,38]],[[61,61],[33,61]],[[60],[60,61],[62],[62,61]],[[43],[45]],[[42],[47],[37]]]
def rowT (i:Nat):List (List UInt8):=(zbF[i]?).getD []
theorem zau:∀i,i<6→∀s∈rowT i,levelOf s=i+1:=by decide
theorem QI {s:List UInt8} {i:Nat} (h:levelOf s=i+1):s∈rowT i:=by
 unfold levelOf at h
 cases hf:levelsL.find? fun p=>decide (p.1=s) with
 | none=>rw [hf] at h;simp at h
 | some p =>
  rw [hf] at h;simp only [Option.map_some,Option.getD_some] at h;have o:=List.mem_of_find?_eq_some hf;have y:p.1=s:=by simpa using List.find?_some hf
  subst y;have e:∀p∈levelsL,∀i,i<7→p.2=i+1→p.1∈rowT i:=by decide
  have z:p.2≤6:=by
   have:∀p∈levelsL,p.2≤6:=by decide
   exact this p o
  exact e p o i (by omega) h
abbrev yY (l:List (List UInt8)):Obj:=.cells (l.map fun x=>Value.string (za x)).toArray 9
abbrev lnO (N:Nat):Obj:=.cells #[.slice (some ⟨N,0,none⟩) 1 1,.slice (some ⟨N+1,0,none⟩) 1 1,.slice (some ⟨N+2,0,none⟩) 2 2,.slice (some ⟨N+3,0,none⟩) 4 4,.slice (some ⟨N+4,0,none⟩) 2 2,.slice (some ⟨N+5,0,none⟩) 3 3] 86
abbrev lnW (w:World):World:=((((((w.alloc (yY (rowT 0))).alloc (yY (rowT 1))).alloc (yY (rowT 2))).alloc (yY (rowT 3))).alloc (yY (rowT 4))).alloc (yY (rowT 5))).alloc (lnO w.heap.size)
theorem Vm {w:World} {N:Nat} {l:List (List UInt8)} (p:w.heap[N]?=some (yY l)) (k:Nat) (h:k<l.length):w.cell? ⟨N,k,none⟩=some (.string (za l[k])):=by
 rw [cell_of_row _ _ _ _ _ _ p]
 simp [h]
theorem zav (w:World):Below w.heap.size w (lnW w)∧(∀i,i<6→(lnW w).heap[w.heap.size+i]?=some (yY (rowT i)))∧(lnW w).heap[w.heap.size+6]?=some (lnO w.heap.size):=by
 refine ⟨?_,?_,?_⟩
 ·refine Below.alloc (Below.alloc (Below.alloc (Below.alloc (Below.alloc (Below.alloc (Below.alloc (Below.refl _ w) (Nat.le_refl _) _) ?_ _) ?_ _) ?_ _) ?_ _) ?_ _) ?_ _ <;> simp <;> omega
 ·intro i A
  have y:∀(W:World) (o:Obj),W.heap.size=w.heap.size+i→(W.alloc o).heap[w.heap.size+i]?=some o:=fun W o h=>by rw [←h];exact World.alloc_heap_new W o
  have e:∀(W:World) (o:Obj),w.heap.size+i<W.heap.size→(W.alloc o).heap[w.heap.size+i]?=W.heap[w.heap.size+i]?:=fun W o h=>Below.heap_alloc _ _ _ h
  have z:i=0∨i=1∨i=2∨i=3∨i=4∨i=5:=by omega
  rcases z with rfl | rfl | rfl | rfl | rfl | rfl
  ·rw [e _ _ (by simp <;> omega),e _ _ (by simp <;> omega),e _ _ (by simp <;> omega),e _ _ (by simp <;> omega),e _ _ (by simp <;> omega),e _ _ (by simp <;> omega),y _ _ (by simp)]
  ·rw [e _ _ (by simp <;> omega),e _ _ (by simp <;> omega),e _ _ (by simp <;> omega),e _ _ (by simp <;> omega),e _ _ (by simp <;> omega),y _ _ (by simp)]
  ·rw [e _ _ (by simp <;> omega),e _ _ (by simp <;> omega),e _ _ (by simp <;> omega),e _ _ (by simp <;> omega),y _ _ (by simp)]
  ·rw [e _ _ (by simp <;> omega),e _ _ (by simp <;> omega),e _ _ (by simp <;> omega),y _ _ (by simp)]
  ·rw [e _ _ (by simp <;> omega),e _ _ (by simp <;> omega),y _ _ (by simp)]
  ·rw [e _ _ (by simp <;> omega),y _ _ (by simp)]
 ·have:=World.alloc_heap_new ((((((w.alloc (yY (rowT 0))).alloc (yY (rowT 1))).alloc (yY (rowT 2))).alloc (yY (rowT 3))).alloc (yY (rowT 4))).alloc (yY (rowT 5))) (lnO w.heap.size)
  simpa using this
theorem QK {w:World} {N M:Nat} (p:w.heap[M]?=some (lnO N)) (i:Nat) (hi:i<6):w.cell? ⟨M,i,none⟩=some (.slice (some ⟨N+i,0,none⟩) (rowT i).length (rowT i).length):=by
 have e:i=0∨i=1∨i=2∨i=3∨i=4∨i=5:=by omega
 rcases e with rfl | rfl | rfl | rfl | rfl | rfl <;> (simp only [World.cell?,p];rfl)
theorem uy (s:List UInt8) (w:World) :
  Calls Tryz.prog 113 #[.string (za s)] w fun e w'=>e=.returned (.int .i64 ((levelOf s:Int)-1))∧Below w.heap.size w w':=by
 obtain ⟨H,I⟩:∃H,H=lnW w:=⟨_,rfl⟩;obtain ⟨E,o,A⟩:=zav w;rw [←I] at E o A;have K:Hid (∀i,i<6→H.heap[w.heap.size+i]?=some (yY (rowT i))):=o;have O:Hid (H.heap[w.heap.size+1+1+1+1+1+1]?=some (lnO w.heap.size)):=A;have HB:Hid (Below w.heap.size w H):=E;have U:=I.symm;obtain ⟨L,Q⟩:∃L,L=levelOf s:=⟨_,rfl⟩;rw [←Q];have ad:Hid (∀i,i<6→s∈rowT i→L=i+1):=fun i hi h=>Q.trans (zau i hi s h)
 have Z:Hid (∀i,L=i+1→s∈rowT i):=fun i h=>QI (Q.symm.trans h)
 have ab:Hid (L≤6):=show L≤6 by
  rw [Q]
  unfold levelOf
  cases h:levelsL.find? fun p=>decide (p.1=s) with
  | none=>simp
  | some p =>
   have hm:=List.mem_of_find?_eq_some h
   have:∀p∈levelsL,p.2≤6:=by decide
   exact this p hm
 have M:Hid (∀i,i<6→(rowT i).length≤4):=show ∀i,i<6→(rowT i).length≤4 by decide
 clear E o A I Q
 go_enter Tryz.func113,Tryz.ntmps113
 go_wp2_with fail
 go_loopw [4] (fun vi wr=>∃i:Nat,i≤6∧vi=.int .i64 (i:Int)∧wr=H∧(L=0∨i<L)) (fun vi _=>6-(intOf vi).toNat)
 case atStart=>exact ⟨0,by omega,rfl,U,by omega⟩
 case round =>
  obtain ⟨i,hi,rfl,G,y⟩:=hrel;have z:=G.symm;subst z
  by_cases hlt:i<6
  ·have ag:(i:Int)<6:=by omega
   have c0:=QK O.out i hlt;obtain ⟨n,V⟩:∃n,n=(rowT i).length:=⟨_,rfl⟩;rw [←V] at c0;have ah:n≤4:=by rw [V];exact M.out i hlt
   have HN:Hid (n=(rowT i).length):=V;clear V;go_wp2_with fail
   go_loopw [5] (fun vk wr=>∃k:Nat,k≤n∧vk=.int .i64 (k:Int)∧wr=H∧∀j (h:j<(rowT i).length),j<k→(rowT i)[j]≠s) (fun vk _=>n-(intOf vk).toNat)
   case atStart=>exact ⟨0,by omega,rfl,rfl,fun j h1 T=>absurd T (Nat.not_lt_zero _)⟩
   case round =>
    obtain ⟨k,hk,rfl,G,N⟩:=hrel;have z:=G.symm;subst z;have D:Hid (∀j (h:j<(rowT i).length),j<k→(rowT i)[j]≠s):=N;clear N
    by_cases hkl:k<n
    ·have ae:(k:Int)<(n:Int):=by omega
     have Y:k<(rowT i).length:=by rw [←HN.out];exact hkl
     have c1:=Vm (K.out i hlt) k Y;obtain ⟨u,R⟩:∃u,u=(rowT i)[k]:=⟨_,rfl⟩;rw [←R] at c1
     by_cases he:u=s
     ·have W:L=i+1:=ad.out i hlt (by rw [←he,R];exact List.getElem_mem _)
      subst he;have HV:Hid (((L:Int)-1)=(i:Int)):=show _=_ by omega
      clear W R y;go_wp2
      exact bodyPost_ret (v:=.int .i64 (i:Int)) (by simp [results,Tryz.results113,go_sem]) rfl ⟨by rw [HV.out],HB.out⟩
     ·have ai:(u==s)=false:=by simpa using he
      have X:Hid (∀j (h:j<(rowT i).length),j<k+1→(rowT i)[j]≠s):=fun j h T=>by
       rcases Nat.lt_or_ge j k with h3 | h3
       ·exact D.out j h h3
       ·obtain rfl:j=k:=by omega
        rw [←R];exact he
      clear R he y D;go_wp2
      exact ⟨⟨k+1,by omega,by go_num,trivial,X.out⟩,by simp [intOf];omega⟩
    ·obtain rfl:k=n:=by omega
     have ae:¬ (k:Int)<(k:Int):=by omega
     have J:L=0∨i+1<L:=by
      rcases y with h | h
      ·exact .inl h
      ·rcases Nat.lt_or_ge (i+1) L with T | T
       ·exact .inr T
       ·exfalso
        obtain ⟨j,hj,e⟩:=List.getElem_of_mem (Z.out i (by omega))
        exact D.out j hj (by rw [HN.out];exact hj) e
     have aa:Hid (L=0∨i+1<L):=J;clear J y D;go_wp2
     exact ⟨⟨i+1,by omega,by go_num,trivial,aa.out⟩,by simp [intOf];omega⟩
  ·obtain rfl:i=6:=by omega
   have af:L=0:=by have:=ab.out;omega
   subst af;clear y;go_wp2
   exact bodyPost_ret (v:=.int .i64 (-1)) (by simp [results,Tryz.results113,go_sem]) rfl ⟨rfl,HB.out⟩
abbrev ezO (k:Int) (s:List UInt8) (n:Int) (base:Option Addr) (m cap:Nat) (line:Int):Obj:=.cells #[.int .i64 k,.string (za s),.int .i64 n,.slice base m cap,.int .i64 line] 90
abbrev ezV (k:Int) (s:List UInt8) (n:Int) (base:Option Addr) (m cap:Nat) (line:Int):Value:=.agg #[.int .i64 k,.string (za s),.int .i64 n,.slice base m cap,.int .i64 line]
theorem Z6 {w w2 w':World} (hb2:Below w.heap.size w w2) (h2:Below w2.heap.size w2 w'):Below w.heap.size w w':=hb2.trans (h2.mono hb2.size)
end Go.Proofs.YtmbofhpmockmbaaGreatDoor
