import Derived.Test.YtbjndgachcdbcaaGreatDoorMC12
import Derived.Deep.RegionWith
import Derived.Lib.AppendStr
namespace Go.Proofs.YtbjndgachcdbcaaGreatDoor
open Go.RowKit Go.Shelf
set_option maxRecDepth 100000
def XZ (os:List Ob) (v:Vl):Bool:=decide (v.k=4)&&rightV v os.length
theorem Ve {os:List Ob} {v:Vl} (h:XZ os v=true):∃i:Nat,i<os.length∧v=⟨4,i,[]⟩:=by
 unfold XZ at h
 rw [Bool.and_eq_true,decide_eq_true_eq] at h;obtain ⟨c,b⟩:=h;obtain ⟨k,n,s⟩:=v;simp only at c;subst c
 simp [rightV] at b
 obtain ⟨⟨m,o⟩,e⟩:=b;refine ⟨n.toNat,by omega,?_⟩
 rw [e]
 congr 1
 omega
theorem uF {os:List Ob} {v:Vl} (h:XZ os v=false):v.k≠4∨rightV v os.length=false:=by
 unfold XZ at h
 rw [Bool.and_eq_false_iff,decide_eq_false_iff_not] at h;exact h
abbrev UF (w:World) (v:Vl):World:=(w.alloc (.cells #[.int .i64 v.k,.int .i64 v.n,.string (za v.s)] 56)).alloc (.cells #[.int .i64 0,.int .i64 0,.string ⟨#[]⟩] 56)
abbrev UG (w:World) (v x:Vl):World:=(w.alloc (.cells #[.int .i64 v.k,.int .i64 v.n,.string (za v.s)] 56)).alloc (.cells #[.int .i64 x.k,.int .i64 x.n,.string (za x.s)] 56)
def ZM:List Ob→Nat→Nat→Vl→List Ob
 | [],_,_,_=>[]
 | o::os,0,i,x=>(o.1,o.2.set i x)::os
 | o::os,j+1,i,x=>o::ZM os j i x
theorem yh:∀(os:List Ob) (j i:Nat) (x:Vl),(ZM os j i x).length=os.length
 | [],_,_,_=>rfl
 | o::os,0,i,x=>rfl
 | o::os,j+1,i,x=>by rw [ZM,List.length_cons,List.length_cons,yh]
theorem YJ:∀(os:List Ob) (a j i:Nat) (x:Vl),Zl a (ZM os j i x)=Zl a os
 | [],_,_,_,_=>rfl
 | o::os,a,0,i,x=>by simp [ZM,Zl]
 | o::os,a,j+1,i,x=>by rw [ZM,Zl,Zl,YJ]
theorem yz:∀(os:List Ob) (j i:Nat) (x:Vl) (hj:j<os.length),i<(os[j]).2.length→zn (ZM os j i x)=(zn os).set (fromO os j+i) x
 | [],_,_,_,h,_=>by cases h
 | o::os,0,i,x,_,hi=>by
  have e:fromO (o::os) 0=0:=rfl;simp only [List.getElem_cons_zero] at hi;rw [ZM,zG,zG,e,Nat.zero_add,List.set_append_left _ _ hi]
 | o::os,j+1,i,x,hj,hi=>by
  have e:fromO (o::os) (j+1)=o.2.length+fromO os j:=by unfold fromO;rw [List.take_succ_cons,zG,List.length_append]
  have b:=yz os j i x (by simpa using hj) (by simpa using hi)
  rw [ZM,zG,zG,e,b,List.set_append_right _ _ (by omega)]
  congr 2
  omega
theorem xj:∀(os:List Ob) (j i:Nat) (x:Vl) (o:Ob),o∈ZM os j i x→o∈os∨∃o'∈os,o=(o'.1,o'.2.set i x)
 | [],_,_,_,_,h=>by cases h
 | p::os,0,i,x,o,h=>by
  rw [ZM] at h;rcases List.mem_cons.1 h with h | h
  ·exact .inr ⟨p,List.mem_cons_self,h⟩
  ·exact .inl (List.mem_cons_of_mem _ h)
 | p::os,j+1,i,x,o,h=>by
  rw [ZM] at h;rcases List.mem_cons.1 h with h | h
  ·subst h;exact .inl List.mem_cons_self
  ·rcases xj os j i x o h with h | ⟨o',c,b⟩
   ·exact .inl (List.mem_cons_of_mem _ h)
   ·exact .inr ⟨o',List.mem_cons_of_mem _ c,b⟩
theorem vL:∀(l:List Vl) (i:Nat) (x:Vl),i<l.length→(((vlC l).set (i*3) (.int .i64 x.k)).set (i*3+1) (.int .i64 x.n)).set (i*3+2) (.string (za x.s))=vlC (l.set i x)
 | [],_,_,h=>by cases h
 | v::l,0,x,_=>by simp [vlC,Y1]
 | v::l,i+1,x,h=>by
  have o:=vL l i x (by simpa using h)
  have e:vlC (v::l)=Y1 v++vlC l:=rfl;have u:vlC ((v::l).set (i+1) x)=Y1 v++vlC (l.set i x):=rfl
  have b:∀(c:List Value) (q:Nat) (a:Value),(Y1 v++c).set ((i+1)*3+q) a=Y1 v++c.set (i*3+q) a:=fun c q a=>by
   rw [List.set_append_right _ _ (by simp [Y1];omega)]
   congr 2
   simp [Y1]
   omega
  have m:=b (vlC l) 0 (.int .i64 x.k);simp only [Nat.add_zero] at m;rw [e,u,m,b,b,o]
theorem VU {w:World} {e n g cp:Nat} {l:List Vl} (h:w.ownsRow 0 e 3 (.slice (some ⟨g,0,none⟩) n cp) n (vlC l)) (i:Nat) (hi:i<l.length) (x:Vl) :
  (((w.setCell ⟨g,i*3,none⟩ (.int .i64 x.k)).setCell ⟨g,i*3+1,none⟩ (.int .i64 x.n)).setCell ⟨g,i*3+2,none⟩ (.string (za x.s))).ownsRow 0 e 3 (.slice (some ⟨g,0,none⟩) n cp) n (vlC (l.set i x)):=by
 refine ⟨by rw [Yy,List.length_set,←Yy];exact h.1,?_⟩
 rcases h.2 with ⟨b,_⟩ | ⟨B,q,z,b,c,m,y,o,u,A⟩
 ·cases b
 ·simp only [Value.slice.injEq,Option.some.injEq,Addr.mk.injEq] at b
  obtain ⟨⟨rfl,-,-⟩,-,rfl⟩:=b;refine .inr ⟨g,cp,_,rfl,c,zj _ (zj _ (zj _ m)),y,o,by simpa using u,?_⟩
  rw [←vL l i x hi,←A]
  simp [List.take_set]
theorem zw.set {S:Nat→Prop} {w:World} {most:Nat} {os:List Ob} {h g n cp:Nat} {vo:Value} (H:zw S w most os h vo (.slice (some ⟨g,0,none⟩) n cp)) (j i:Nat) (hj:j<os.length) (hi:i<(os[j]).2.length) (x:Vl) (hx:ZZ x os.length=true) (hs:zq x) :
  zw S (((w.setCell ⟨g,fromO os j*3+i*3,none⟩ (.int .i64 x.k)).setCell ⟨g,fromO os j*3+i*3+1,none⟩ (.int .i64 x.n)).setCell ⟨g,fromO os j*3+i*3+2,none⟩ (.string (za x.s))) most (ZM os j i x) h vo (.slice (some ⟨g,0,none⟩) n cp):=by
 have y:=H.apart;obtain ⟨E,-⟩:=ZL os j hj
 have F:n=(zn os).length:=by
  obtain ⟨b,c,m,-,-⟩:=Zm H.cells;simp only [Value.slice.injEq] at m;exact m.2.1
 subst F
 have q:∀k,k≠g→(((w.setCell ⟨g,fromO os j*3+i*3,none⟩ (.int .i64 x.k)).setCell ⟨g,fromO os j*3+i*3+1,none⟩ (.int .i64 x.n)).setCell ⟨g,fromO os j*3+i*3+2,none⟩ (.string (za x.s))).heap[k]?=w.heap[k]?:=fun k hk=>by
  rw [Below.heap_setCell _ _ _ _ (by simpa using hk),Below.heap_setCell _ _ _ _ (by simpa using hk),Below.heap_setCell _ _ _ _ (by simpa using hk)]
 refine ⟨?_,?_,?_,H.sh,H.so,H.sc,?_,?_,H.may⟩
 ·rw [q h (fun e=>y.2.1 (by rw [e];rfl))];exact H.blk
 ·rw [yh,YJ]
  exact zi H.objs fun k hk _=>q k fun e=>y.2.2 k hk (by rw [e];rfl)
 ·rw [yz os j i x hj hi,List.length_set]
  have D:=VU H.cells (fromO os j+i) (by omega) x
  rw [Nat.add_mul] at D;exact D
 ·intro o B
  rw [yh];rcases xj os j i x o B with B | ⟨o',A,rfl⟩
  ·exact H.ok o B
  ·have u:=H.ok o' A
   refine ⟨?_,u.2.1,fun v m=>?_⟩
   ·have z:=u.1
    unfold XX at z ⊢
    rw [Bool.and_eq_true,List.all_eq_true] at z ⊢;refine ⟨fun v m=>?_,z.2⟩
    rcases List.mem_or_eq_of_mem_set m with m | rfl
    ·exact z.1 v m
    ·exact hx
   ·rcases List.mem_or_eq_of_mem_set m with m | rfl
    ·exact u.2.2 v m
    ·exact hs
 ·rw [yh,yz os j i x hj hi,List.length_set];exact H.use
theorem zf {ops:Array Oper} {rest:List Oper} {o:Oper} {a:Act} {w:World} {Q:Exit→Act→World→Prop} (hgd:o.guard=none) (s x:Operand)
  (ho:o.op=.call { callee:=.builtin .append,args:=#[s,x],argTypes:=#[44,9] })
  (B:Nat) (v:Value) (us:List UInt8) (hs:a.eval s=v) (hown:w.ownsRow B 5 1 v us.length (Lib.byteCells us)) (bs:List UInt8) (hx:a.eval x=.string (za bs))
  (hb:us.length+bs.length≤140737488355328) (hB:B≤w.heap.size)
  (h:∀c b,b.ownsRow B 5 1 c (us++bs).length (Lib.byteCells (us++bs))→w.grownBy b v.ownBlock→wpList Tryz.prog ops Q rest (a.put o.dst c) b):wpList Tryz.prog ops Q (o::rest) a w:=by
 obtain ⟨z,A,q,u,m⟩:=info_parts xG;refine Lib.wpList_append_own_string _ hgd s x 44 9 ho B 5 z Tryz.underlying44 Tryz.underlying9 A q u m v us.length _ hs hown (za bs) hx (by rw [zs];unfold maxLen;omega) (by rw [zs];omega) hB ?_
 intro c b e y _;refine h c b ?_ y;rw [List.length_append,Lib.byteCells_append];exact e
def xl:List UInt8:=[116,114,117,101]
def yY:List UInt8:=[102,97,108,115,101]
def Yj:List UInt8:=[110,111,110,101]
def zM:List UInt8:=[46,46,46]
def zV (v:Vl) (r:List UInt8):List UInt8 :=
 if v.k=1 then Lib.itoa v.n else if v.k=2 then (if v.n=1 then xl else yY) else if v.k=3 then (Xj 3 0 v.s).1 else if v.k=4 then r else Yj
def zh (f:Vl→List UInt8):List Vl→List UInt8
 | []=>[]
 | v::l=>f v++l.flatMap fun u=>[44,32]++f u
theorem X0 (f:Vl→List UInt8) (l:List Vl) (v:Vl):zh f (l++[v])=zh f l++((if l=[] then [] else [44,32])++f v):=by
 cases l with
 | nil=>simp [zh]
 | cons x l=>simp [zh,List.flatMap_append]
def Uh (f:Vl→List UInt8) (o:Ob):List UInt8 :=
 (if o.1=[] then [91] else o.1++[40])++zh f (o.2.take 8)++(if 8<o.2.length then [44,32,46,46,46] else [])++(if o.1=[] then [93] else [41])
def zH (os:List Ob):Nat→Vl→List UInt8
 | 0,v=>zV v zM
 | d+1,v=>zV v (Uh (zH os d) ((os[v.n.toNat]?).getD ([],[])))
def yA (os:List Ob) (d:Nat) (o:Ob):List UInt8:=match d with
 | 0=>zM
 | d+1=>Uh (zH os d) o
theorem xm (os:List Ob) (d:Nat) (v:Vl):zH os d v=zV v (yA os d ((os[v.n.toNat]?).getD ([],[]))):=by cases d <;> rfl
def Zi (os:List Ob) (v:Vl):List UInt8:=if rightV v os.length=true then (if 200<(zH os 2 v).length then (zH os 2 v).take 197++zM else zH os 2 v) else []
def Zc:Nat→Nat
 | 0=>3000000
 | d+1=>10*Zc d+3000000
theorem xL (d:Nat):3000000≤Zc d:=by cases d <;> simp [Zc]
theorem yZ {v:Vl} {r:List UInt8} {N:Nat} (hv:zq v) (hr:r.length≤N) (hN:3000000≤N):(zV v r).length≤N:=by
 have b:=hv.2
 unfold zV
 split
 ·have:=Yx 2 v.n [] hv.1.1 hv.1.2
  rw [show YE 2 v.n []=Lib.itoa v.n from rfl] at this
  simp at this
  omega
 ·split
  ·split <;> simp [xl,yY] <;> omega
  ·split
   ·unfold Xj
    split
    ·have:=Yx 3 0 v.s (by omega) (by omega)
     simp only;omega
    ·simp
   ·split
    ·exact hr
    ·simp [Yj];omega
theorem y5 {f:Vl→List UInt8} {N:Nat}:∀(l:List Vl),(∀v∈l,(f v).length≤N)→(zh f l).length≤l.length*(N+2)
 | [],_=>by simp [zh]
 | v::l,h=>by
  have m:=h v List.mem_cons_self
  have:∀(l:List Vl),(∀u∈l,(f u).length≤N)→(l.flatMap fun u=>[44,32]++f u).length≤l.length*(N+2):=by
   intro l
   induction l with
   | nil=>simp
   | cons x l ih =>
    intro b;have c:=b x List.mem_cons_self;have e:=ih fun u hu=>b u (List.mem_cons_of_mem _ hu)
    rw [List.flatMap_cons,List.length_append,List.length_cons,Nat.add_mul];simp only [List.length_append,List.length_cons,List.length_nil];omega
  have c:=this l fun u hu=>h u (List.mem_cons_of_mem _ hu)
  simp only [zh,List.length_append,List.length_cons,Nat.add_mul];omega
theorem uG {f:Vl→List UInt8} {N:Nat} {o:Ob} (ho:o.1.length≤1048576) (h:∀v∈o.2,(f v).length≤N):(Uh f o).length≤10*N+3000000:=by
 have u:=y5 (f:=f) (N:=N) (o.2.take 8) fun v hv=>h v (List.mem_of_mem_take hv)
 have b:(o.2.take 8).length≤8:=by rw [List.length_take];omega
 have q:(o.2.take 8).length*(N+2)≤8*(N+2):=Nat.mul_le_mul_right _ b
 unfold Uh
 simp only [List.length_append];have m:(if o.1=[] then [(91:UInt8)] else o.1++[40]).length≤1048577:=by split <;> simp <;> omega
 have c:(if 8<o.2.length then [(44:UInt8),32,46,46,46] else []).length≤5:=by split <;> simp
 have e:(if o.1=[] then [(93:UInt8)] else [41]).length≤1:=by split <;> simp
 omega
theorem yL {os:List Ob} (hos:∀o∈os,Zf o):∀(d:Nat) (v:Vl),zq v→(zH os d v).length≤Zc d
 | 0,v,hv=>yZ hv (by simp [zM,Zc]) (by simp [Zc])
 | d+1,v,hv=>by
  refine yZ hv ?_ (xL _);cases ho:os[v.n.toNat]? with
  | none=>simp [Uh,zh,Zc]
  | some o =>
   have b:=hos o (List.mem_of_getElem? ho);exact uG b.1 (fun u hu=>yL hos d u (b.2 u hu))
end Go.Proofs.YtbjndgachcdbcaaGreatDoor
