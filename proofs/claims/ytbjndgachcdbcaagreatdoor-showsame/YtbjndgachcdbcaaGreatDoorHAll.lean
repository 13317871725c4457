import Derived.Test.YtbjndgachcdbcaaGreatDoorMC17
namespace Go.Proofs.YtbjndgachcdbcaaGreatDoor
open Go.RowKit Go.Shelf
set_option maxRecDepth 100000
theorem Y8:(Tryz.prog.info? 49).map (fun i=>(i.zero,i.size,i.bytes))=some (some (.agg #[.string ⟨#[]⟩,.slice none 0 0]),2,40):=by kernel_rfl
def obsC:List Ob→List Value→List Value
 | o::os,v::vs=>.string (za o.1)::v::obsC os vs
 | _,_=>[]
theorem yP:∀(os:List Ob) (vs:List Value),vs.length=os.length→(obsC os vs).length=os.length*2
 | [],[],_=>rfl
 | o::os,v::vs,h=>by simp only [obsC,List.length_cons,yP os vs (by simpa using h)];omega
 | [],_::_,h=>by simp at h
 | _::_,[],h=>by simp at h
theorem xK:∀(os:List Ob) (vs:List Value) (o:Ob) (v:Value),vs.length=os.length→obsC (os++[o]) (vs++[v])=obsC os vs++[.string (za o.1),v]
 | [],[],o,v,_=>rfl
 | p::os,u::vs,o,v,h=>by rw [List.cons_append,List.cons_append,obsC,obsC,xK os vs o v (by simpa using h)];rfl
 | [],_::_,_,_,h=>by simp at h
 | _::_,[],_,_,h=>by simp at h
theorem Xh:∀(os:List Ob) (vs:List Value) (_:vs.length=os.length) (j:Nat) (hj:j<os.length),(obsC os vs)[j*2]?=some (.string (za (os[j]).1))∧(obsC os vs)[j*2+1]?=vs[j]?
 | [],_,_,_,h=>by cases h
 | _::_,[],h,_,_=>by simp at h
 | o::os,v::vs,_,0,_=>⟨rfl,rfl⟩
 | o::os,v::vs,h,j+1,hj=>by
  have b:=Xh os vs (by simpa using h) j (by simpa using hj)
  rw [obsC,show (j+1)*2=j*2+2 by omega,show j*2+2+1=(j*2+1)+2 by omega]
  simp only [List.getElem?_cons_succ,List.getElem_cons_succ];exact b
structure vP (B:Nat) (w:World) (os:List Ob) (v:Value) (vs:List Value):Prop where
 len:vs.length=os.length
 row:w.ownsRow B 49 2 v os.length (obsC os vs)
 kids:∀j (hj:j<os.length),∃u,vs[j]?=some u∧w.ownsRow B 56 3 u (os[j]).2.length (vlC (os[j]).2)
theorem vP.kept {B:Nat} {w w':World} {os:List Ob} {v:Value} {vs:List Value} (h:vP B w os v vs) (hb:∀k,B≤k→k<w.heap.size→w'.heap[k]?=w.heap[k]?):vP B w' os v vs where
 len:=h.len
 row:=zh h.row fun k hk hlt=>hb k (h.row.lt k hk).1 hlt
 kids:=fun j hj=>by
  obtain ⟨u,c,b⟩:=h.kids j hj;exact ⟨u,c,zh b fun k hk hlt=>hb k (b.lt k hk).1 hlt⟩
def zD (S:Nat→Prop) (w:World) (v:Value) (os:List Ob):Prop :=
 ∃base cap,v=.slice base os.length cap∧os.length≤cap∧cap≤maxLen ∧
  (os=[]∨∃b o,base=some ⟨b,o,none⟩∧S b∧b<w.heap.size∧∀j (hj:j<os.length),∃u,w.cell? ⟨b,o+j*2,none⟩=some (.string (za (os[j]).1))∧w.cell? ⟨b,o+j*2+1,none⟩=some u∧zk S w u (os[j]).2)
theorem zD.kept {S:Nat→Prop} {w w':World} {v:Value} {os:List Ob} (h:zD S w v os) (hs:w.heap.size≤w'.heap.size) (hb:∀k,S k→k<w.heap.size→w'.heap[k]?=w.heap[k]?):zD S w' v os:=by
 obtain ⟨base,q,m,F,A,z⟩:=h;refine ⟨base,q,m,F,A,?_⟩;rcases z with z | ⟨b,o,e,y,c,D⟩
 ·exact .inl z
 ·refine .inr ⟨b,o,e,y,Nat.lt_of_lt_of_le c hs,fun j hj=>?_⟩
  obtain ⟨u,B,E,m⟩:=D j hj;exact ⟨u,(World.cell?_of_block (hb b y c)).trans B,(World.cell?_of_block (hb b y c)).trans E,m.kept hs hb⟩
theorem zD.wide {S S':Nat→Prop} {w:World} {v:Value} {os:List Ob} (h:zD S w v os) (hS:∀k,k<w.heap.size→S k→S' k):zD S' w v os:=by
 obtain ⟨base,q,m,F,z,y⟩:=h;refine ⟨base,q,m,F,z,?_⟩;rcases y with y | ⟨b,o,e,D,c,B⟩
 ·exact .inl y
 ·refine .inr ⟨b,o,e,hS b c D,c,fun j hj=>?_⟩
  obtain ⟨u,A,E,m⟩:=B j hj;exact ⟨u,A,E,m.low.wide fun k hk=>hS k hk.2 hk.1⟩
end Go.Proofs.YtbjndgachcdbcaaGreatDoor
