import Derived.Test.YtbjndgachcdbcaaGreatDoorVSameM
namespace Go.Proofs.YtbjndgachcdbcaaGreatDoor
open Go.RowKit Go.Shelf
theorem Vp {P:Program} {Q:Exit→Act→World→Prop} {md:Region.Mode} {S:World→Prop} {l:List Oper} {fuel fuel':Nat} {w:World} {i1 i2:Nat} {o1 o2:Oper} {rest1 rest2:List Oper} {listed listed1 listed2:Array Bool} {a:Act}
  (hd1:l.drop i1=o1::rest1) (hd2:l.drop i2=o2::rest2) (hr:Region.ready md l.toArray listed=[i1,i2]) (hf:fuel+1=fuel') (hL1:listed1=listed.setIfInBounds i1 true) (hL2:listed2=listed.setIfInBounds i2 true)
  (hw1:Region.wanted o1 (yielded l.toArray a.tmps)=true) (hw2:Region.wanted o2 (yielded l.toArray a.tmps)=true)
  (b:∀K:Act→World→Prop,Hid (∀a' w',S w'→wpAnyH P md l.toArray Q S fuel listed1 a' w'→K a' w')→o1.wp P a w K Q)
  (h2:∀K:Act→World→Prop,Hid (∀a' w',S w'→wpAnyH P md l.toArray Q S fuel listed2 a' w'→K a' w')→o2.wp P a w K Q):wpAnyH P md l.toArray Q S fuel' listed a w:=by
 subst hf hL1 hL2;refine wpAnyH_all hr (by simp) fun j hj=>?_
 have c:j=i1∨j=i2:=by simpa using hj
 rcases c with rfl | rfl
 ·have b:=b (fun a' w'=>S w'∧wpAnyH P md l.toArray Q S fuel (listed.setIfInBounds j true) a' w') fun a' w' b h2=>⟨b,h2⟩
  unfold wpOp
  rw [ZQ hd1];simp only [hw1,if_true];exact .inl b
 ·have b:=h2 (fun a' w'=>S w'∧wpAnyH P md l.toArray Q S fuel (listed.setIfInBounds j true) a' w') fun a' w' b h2=>⟨b,h2⟩
  unfold wpOp
  rw [ZQ hd2];simp only [hw2,if_true];exact .inl b
theorem X4 {P:Program} {Q:Exit→Act→World→Prop} {md:Region.Mode} {S:World→Prop} {l:List Oper} {fuel fuel':Nat} {w:World} {i1 i2:Nat} {o1 o2:Oper} {rest1 rest2:List Oper} {listed listed1 listed2:Array Bool} {a:Act}
  (hd1:l.drop i1=o1::rest1) (hd2:l.drop i2=o2::rest2) (hr:Region.ready md l.toArray listed=[i1,i2]) (hf:fuel+1=fuel') (hL1:listed1=listed.setIfInBounds i1 true) (hL2:listed2=listed.setIfInBounds i2 true)
  (hw1:Region.wanted o1 (yielded l.toArray a.tmps)=true) (hw2:Region.wanted o2 (yielded l.toArray a.tmps)=true)
  (h1:∀K:Act→World→Prop,Hid (∀a' w',S w'→wpAnyH P md l.toArray Q S fuel listed1 a' w'→K a' w')→if Region.wanted o1 (yielded l.toArray a.tmps)=true then o1.wp P a w K Q else True)
  (h2:∀K:Act→World→Prop,Hid (∀a' w',S w'→wpAnyH P md l.toArray Q S fuel listed2 a' w'→K a' w')→o2.wp P a w K Q):wpAnyH P md l.toArray Q S fuel' listed a w :=
 Vp hd1 hd2 hr hf hL1 hL2 hw1 hw2 (fun K hK=>by have:=h1 K hK;rwa [if_pos hw1] at this) h2
theorem Yg {ops:Array Oper} {o:Oper} {a:Act} {w:World} {K:Act→World→Prop} {Q:Exit→Act→World→Prop} {E:Prop} (s x:Operand)
  (ho:o.op=.call { callee:=.builtin .append,args:=#[s,x],argTypes:=#[36,36] }) (hw:Region.wanted o (yielded ops a.tmps)=true)
  (w2:World) (hB:Below w2.heap.size w2 w) (Eb:Nat) (hE:w2.heap.size≤Eb) (vE:Value) (hvE:vE.ownBlock=some Eb) (base:Nat) (hs:a.eval s=vE) (hown:w.ownsRow base 49 2 vE 0 []) (hbase:base≤w.heap.size)
  (bL:Option Addr) (cL:Nat) (os:List Ob) (us:List Value) (hx:a.eval x=.slice bL os.length cL) (hform:Value.slice bL os.length cL=.slice none 0 0∨∃ad n c,Value.slice bL os.length cL=.slice (some ad) n c) (hsp:∀ad,bL=some ad→1≤os.length→∃b o,ad=⟨b,o,none⟩)
  (hl:us.length=os.length) (h1:∀u∈obsC os us,u.oneCell'=true) (hc:∀b o cap,Value.slice bL os.length cL=.slice (some ⟨b,o,none⟩) os.length cap→∀j u,(obsC os us)[j]?=some u→b<w2.heap.size∧w2.cell? ⟨b,o+j,none⟩=some u) (hn:os.length≤1048576)
  (h:∀y q,q.ownsRow base 49 2 y os.length (obsC os us)→Below w2.heap.size w2 q→(∀X c,w.heap[X]?=some c→X≠Eb→q.heap[X]?=some c)→w.heap.size≤q.heap.size→K (a.put o.dst y) q) :
  if Region.wanted o (yielded ops a.tmps)=true then Oper.wp Tryz.prog o a w K Q else E:=by
 refine yQ s x ho hw base vE hs hown hbase bL cL os us hx hform hsp hl h1 (fun b o cap e j u hj=>(zb hB (hc b o cap e j u hj).1).trans (hc b o cap e j u hj).2) hn ?_
 intro y q z m;exact h y q z (hB.grown m hB.size (fun k e=>by rw [hvE] at e;cases e;exact hE)) (fun X c hX hne=>(m.block X (zc hX) (fun e=>by rw [hvE] at e;cases e;exact hne rfl)).trans hX) m.size
theorem Yh {ops:Array Oper} {o:Oper} {a:Act} {w:World} {K:Act→World→Prop} {Q:Exit→Act→World→Prop} {E:Prop} (s x:Operand)
  (ho:o.op=.call { callee:=.builtin .append,args:=#[s,x],argTypes:=#[36,36] }) (hw:Region.wanted o (yielded ops a.tmps)=true)
  (w2:World) (hB:Below w2.heap.size w2 w) (base:Nat) (hb0:w2.heap.size≤base) (hbase:base≤w.heap.size) (os:List Ob) (us:List Value) (ob:Ob) (uo:Value) (v5:Value) (hs:a.eval s=v5) (hown:w.ownsRow base 49 2 v5 os.length (obsC os us))
  (X:Nat) (hx:a.eval x=.slice (some ⟨X,0,none⟩) 1 1) (hX:w.heap[X]?=some (.cells #[.string (za ob.1),uo] 49 (0,0))) (hn:os.length<1048576)
  (hl:us.length=os.length) (huv:∀i (hi:i<os.length),∃u,us[i]?=some u∧zk (fun _=>True) w2 u (os[i]).2) (huo:zk (fun _=>True) w2 uo ob.2)
  (h:∀y w',zD (fun _=>True) w' y (os++[ob])→Below w2.heap.size w2 w'→K (a.put o.dst y) w') :
  if Region.wanted o (yielded ops a.tmps)=true then Oper.wp Tryz.prog o a w K Q else E:=by
 obtain ⟨O,D,z,F,G⟩:=info_parts Y8;obtain ⟨M,J⟩:=xX hX;refine z7 s x 36 ho hw base 49 O _ 2 40 Tryz.underlying36 D z F G rfl (by decide) _ os.length _ hs hown ⟨X,0,none⟩ 1 1 [.string (za ob.1),uo] hx rfl (fun j u hj=>?_) (fun u m=>?_) (by unfold maxLen;omega) (by omega) hbase ?_
 ·rw [Zq,Nat.zero_add]
  match j,hj with
  | 0,hj=>cases hj;exact M
  | 1,hj=>cases hj;exact J
  | j+2,hj=>simp at hj
 ·rcases List.mem_cons.1 m with rfl | m
  ·rfl
  ·obtain rfl:u=uo:=by simpa using m
   exact yy huo
 ·intro y w' A B _
  have b:Below w2.heap.size w2 w':=hB.grown B hB.size (fun k e=>Nat.le_trans hb0 (hown.lt k e).1)
  refine h y w' ?_ b;refine XZ (us:=us++[uo]) (by simp [hl]) (by rw [List.length_append,List.length_singleton,xK _ _ _ _ hl];exact A) (fun _ _=>trivial) (fun i hi=>?_)
  rw [List.length_append,List.length_singleton] at hi;rcases Nat.lt_or_ge i os.length with c | I
  ·obtain ⟨u,m,H⟩:=huv i c
   refine ⟨u,by rw [List.getElem?_append_left (by rw [hl];exact c)];exact m,?_⟩
   rw [List.getElem_append_left c];exact H.kept b.size fun q _ hq=>b.block q hq
  ·obtain rfl:i=os.length:=by omega
   refine ⟨uo,by rw [←hl];simp,?_⟩
   rw [List.getElem_append_right (Nat.le_refl _)];simp only [Nat.sub_self,List.getElem_cons_zero];exact huo.kept b.size fun q _ hq=>b.block q hq
end Go.Proofs.YtbjndgachcdbcaaGreatDoor
