import Derived.Test.YtbjndgachcdbcaaGreatDoorLVEach
import Derived.Test.YtbjndgachcdbcaaGreatDoorMC7
import Derived.Deep.DeepCutAuto
import Derived.Deep.Slices
namespace Go.Proofs.YtbjndgachcdbcaaGreatDoor
open Go.RowKit Go.Shelf
theorem xL {os:List Ob} {vs:List Value} {j:Nat} {u:Value} (hl:vs.length=os.length) (h:(obsC os vs)[j]?=some u):∃i,∃c:i<os.length,(j=i*2∧u=.string (za (os[i]).1))∨(j=i*2+1∧vs[i]?=some u):=by
 have q:j<(obsC os vs).length:=(List.getElem?_eq_some_iff.1 h).1;rw [yP os vs hl] at q;have c:j / 2<os.length:=by omega
 obtain ⟨o,m⟩:=Xh os vs hl (j / 2) c;refine ⟨j / 2,c,?_⟩;have b:j % 2=0∨j % 2=1:=by omega
 rcases b with b | b
 ·have e:j / 2*2=j:=by omega
  rw [e,h] at o;exact .inl ⟨e.symm,Option.some.inj o⟩
 ·have e:j / 2*2+1=j:=by omega
  rw [e,h] at m;exact .inr ⟨e.symm,m.symm⟩
theorem uF {os:List Ob} {vs:List Value} (hl:vs.length=os.length) (hv:∀u∈vs,u.oneCell'=true):∀u∈obsC os vs,u.oneCell'=true:=by
 intro u c;obtain ⟨j,b⟩:=List.getElem?_of_mem c;obtain ⟨i,e,⟨-,rfl⟩ | ⟨-,h⟩⟩:=xL hl b
 ·rfl
 ·exact hv u (List.mem_of_getElem? h)
theorem zD.rowsV {S:Nat→Prop} {w:World} {v:Value} {os:List Ob} (h:zD S w v os):∃us:List Value,us.length=os.length∧(∀i (c:i<os.length),∃u,us[i]?=some u∧zk S w u (os[i]).2)∧(∀b o y,v=.slice (some ⟨b,o,none⟩) os.length y→∀j u,(obsC os us)[j]?=some u→b<w.heap.size∧w.cell? ⟨b,o+j,none⟩=some u):=by
 obtain ⟨base,y,rfl,-,-,G⟩:=h.at
 have z:∀i,i<os.length→∃u:Value,(∀c:i<os.length,∃b o,base=some ⟨b,o,none⟩∧b<w.heap.size∧w.cell? ⟨b,o+i*2,none⟩=some (.string (za (os[i]).1))∧w.cell? ⟨b,o+i*2+1,none⟩=some u∧zk S w u (os[i]).2):=fun i c=>by
  obtain ⟨b,o,u,e,-,m,F,D,B⟩:=G i c;exact ⟨u,fun _=>⟨b,o,e,m,F,D,B⟩⟩
 obtain ⟨f,I⟩:=Deep.choose_lt z;have A:((List.range os.length).map f).length=os.length:=by simp
 refine ⟨(List.range os.length).map f,A,fun i c=>?_,fun b o cap' e j u hj=>?_⟩
 ·obtain ⟨b,o,-,-,-,-,B⟩:=I i c c
  exact ⟨f i,by simp [c],B⟩
 ·obtain ⟨i,c,q⟩:=xL A hj
  obtain ⟨J,o',E,m,F,D,-⟩:=I i c c;simp only [Value.slice.injEq] at e;rw [e.1] at E;simp only [Option.some.injEq,Addr.mk.injEq,and_true] at E;obtain ⟨rfl,rfl⟩:=E;rcases q with ⟨rfl,rfl⟩ | ⟨rfl,H⟩
  ·exact ⟨m,F⟩
  ·simp [c] at H
   subst H;exact ⟨m,by rw [←Nat.add_assoc];exact D⟩
theorem yy {S:Nat→Prop} {w:World} {u:Value} {l:List Vl} (h:zk S w u l):u.oneCell'=true:=by
 obtain ⟨base,b,rfl,-⟩:=h
 rfl
theorem XZ {S:Nat→Prop} {w:World} {B:Nat} {v:Value} {os:List Ob} {us:List Value} (hl:us.length=os.length) (h:w.ownsRow B 49 2 v os.length (obsC os us)) (hS:∀k,B≤k→S k) (hv:∀i (hi:i<os.length),∃u,us[i]?=some u∧zk S w u (os[i]).2):zD S w v os:=by
 rcases h.2 with ⟨e,c⟩ | ⟨g,m,I,e,A,F,D,E,_,_⟩
 ·exact ⟨none,0,by rw [e,c],by omega,Nat.zero_le _,.inl (List.length_eq_zero_iff.1 c)⟩
 ·refine ⟨_,m,e,D,E,.inr ⟨g,0,rfl,hS g A,(Array.getElem?_eq_some_iff.1 F).1,fun j hj=>?_⟩⟩
  obtain ⟨u,G,H⟩:=hv j hj;obtain ⟨y,o⟩:=Xh os us hl j hj
  have b:∀q z,(obsC os us)[q]?=some z→w.cell? ⟨g,0+q,none⟩=some z:=fun q z hq=>by
   have:=h.cells (g:=g) (by rw [e];rfl) q z hq
   by_cases c:q=0
   ·subst c;simpa [Addr.add] using this
   ·simpa [Addr.add,c] using this
  exact ⟨u,b _ _ y,by have:=b _ _ (o.trans G);rwa [←Nat.add_assoc] at this,H⟩
theorem Ye {P:Program} {ops:Array Oper} {o:Oper} {a:Act} {w:World} {K:Act→World→Prop} {Q:Exit→Act→World→Prop} {E:Prop} (s x:Operand) (t:TypeId)
  (ho:o.op=.call { callee:=.builtin .append,args:=#[s,x],argTypes:=#[t,t] }) (hw:Region.wanted o (yielded ops a.tmps)=true)
  (base:Nat) (e:TypeId) (i:TypeInfo) (size:Nat) (ht:P.underlying t=some (.slice e)) (hi:P.info? e=some i)
  (v:Value) (n:Nat) (xs:List Value) (hs:a.eval s=v) (hown:w.ownsRow base e size v n xs) (hx:a.eval x=.slice none 0 0) (h:K (a.put o.dst v) w) :
  if Region.wanted o (yielded ops a.tmps)=true then Oper.wp P o a w K Q else E:=by
 rw [if_pos hw];have b:=run_append_owned_none (P:=P) (w:=w) base t o.type e i size ht hi _ _ _ hown
 unfold Oper.wp
 simp [execOp,ho,resolve,invoke,builtin,hs,hx,b,Result.andThen]
 exact h
theorem yQ {ops:Array Oper} {o:Oper} {a:Act} {w:World} {K:Act→World→Prop} {Q:Exit→Act→World→Prop} {E:Prop} (s x:Operand)
  (ho:o.op=.call { callee:=.builtin .append,args:=#[s,x],argTypes:=#[36,36] }) (hw:Region.wanted o (yielded ops a.tmps)=true)
  (base:Nat) (v:Value) (hs:a.eval s=v) (hown:w.ownsRow base 49 2 v 0 []) (hbase:base≤w.heap.size)
  (bL:Option Addr) (cL:Nat) (os:List Ob) (us:List Value) (hx:a.eval x=.slice bL os.length cL) (hform:Value.slice bL os.length cL=.slice none 0 0∨∃e n c,Value.slice bL os.length cL=.slice (some e) n c) (hsp:∀e,bL=some e→1≤os.length→∃b o,e=⟨b,o,none⟩)
  (hl:us.length=os.length) (h1:∀u∈obsC os us,u.oneCell'=true) (hc:∀b o cap,Value.slice bL os.length cL=.slice (some ⟨b,o,none⟩) os.length cap→∀j u,(obsC os us)[j]?=some u→w.cell? ⟨b,o+j,none⟩=some u) (hn:os.length≤1048576)
  (h:∀A z,z.ownsRow base 49 2 A os.length (obsC os us)→w.grownBy z v.ownBlock→K (a.put o.dst A) z) :
  if Region.wanted o (yielded ops a.tmps)=true then Oper.wp Tryz.prog o a w K Q else E:=by
 obtain ⟨J,q,B,H,I⟩:=info_parts Y8;rcases hform with y | ⟨e,n,c,y⟩
 ·simp only [Value.slice.injEq] at y
  obtain ⟨rfl,M,rfl⟩:=y;have G:os=[]:=List.length_eq_zero_iff.1 M;subst G;refine Ye s x 36 ho hw base 49 J 2 Tryz.underlying36 q v 0 [] hs hown hx ?_;refine h v w ?_ (Z3 _ _);cases us with
  | nil=>exact hown
  | cons=>simp at hl
 ·simp only [Value.slice.injEq] at y
  obtain ⟨rfl,-,rfl⟩:=y;refine z7 s x 36 ho hw base 49 J _ 2 40 Tryz.underlying36 q B H I rfl (by decide) v 0 [] hs hown e os.length cL (obsC os us) hx (by rw [yP os us hl]) (fun j u hj=>?_) h1 (by unfold maxLen;omega) (by omega) hbase ?_
  ·have m:1≤os.length:=by
    have:=(List.getElem?_eq_some_iff.1 hj).1
    rw [yP os us hl] at this;omega
   obtain ⟨b,o,rfl⟩:=hsp e rfl m;rw [Zq];exact hc b o cL rfl j u hj
  ·intro A z D F _
   refine h A z ?_ F
   simpa using D
end Go.Proofs.YtbjndgachcdbcaaGreatDoor
