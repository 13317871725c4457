import Derived.Test.YtbjndgachcdbcaaGreatDoorMC12
import Derived.Deep.RegionWith
import Derived.Lib.AppendStr
namespace Go.Proofs.YtbjndgachcdbcaaGreatDoor
open Go.RowKit Go.Shelf
set_option maxRecDepth 100000
def XS (os:List Ob) (v:Vl):Bool:=decide (v.k=4)&&rightV v os.length
theorem vZ {os:List Ob} {v:Vl} (h:XS os v=true):∃i:Nat,i<os.length∧v=⟨4,i,[]⟩:=by
 unfold XS at h
 rw [Bool.and_eq_true,decide_eq_true_eq] at h;obtain ⟨b,c⟩:=h;obtain ⟨k,n,s⟩:=v;simp only at b;subst b
 simp [rightV] at c
 obtain ⟨⟨o,m⟩,e⟩:=c;refine ⟨n.toNat,by omega,?_⟩
 rw [e]
 congr 1
 omega
theorem ux {os:List Ob} {v:Vl} (h:XS os v=false):v.k≠4∨rightV v os.length=false:=by
 unfold XS at h
 rw [Bool.and_eq_false_iff,decide_eq_false_iff_not] at h;exact h
abbrev Uy (w:World) (v:Vl):World:=(w.alloc (.cells #[.int .i64 v.k,.int .i64 v.n,.string (za v.s)] 56)).alloc (.cells #[.int .i64 0,.int .i64 0,.string ⟨#[]⟩] 56)
abbrev Uz (w:World) (v x:Vl):World:=(w.alloc (.cells #[.int .i64 v.k,.int .i64 v.n,.string (za v.s)] 56)).alloc (.cells #[.int .i64 x.k,.int .i64 x.n,.string (za x.s)] 56)
def ZP:List Ob→Nat→Nat→Vl→List Ob
 | [],_,_,_=>[]
 | o::os,0,i,x=>(o.1,o.2.set i x)::os
 | o::os,j+1,i,x=>o::ZP os j i x
theorem yc:∀(os:List Ob) (j i:Nat) (x:Vl),(ZP os j i x).length=os.length
 | [],_,_,_=>rfl
 | o::os,0,i,x=>rfl
 | o::os,j+1,i,x=>by rw [ZP,List.length_cons,List.length_cons,yc]
theorem YJ:∀(os:List Ob) (a j i:Nat) (x:Vl),Zo a (ZP os j i x)=Zo a os
 | [],_,_,_,_=>rfl
 | o::os,a,0,i,x=>by simp [ZP,Zo]
 | o::os,a,j+1,i,x=>by rw [ZP,Zo,Zo,YJ]
theorem yv:∀(os:List Ob) (j i:Nat) (x:Vl) (hj:j<os.length),i<(os[j]).2.length→zo (ZP os j i x)=(zo os).set (fromO os j+i) x
 | [],_,_,_,h,_=>by cases h
 | o::os,0,i,x,_,hi=>by
  have e:fromO (o::os) 0=0:=rfl;simp only [List.getElem_cons_zero] at hi;rw [ZP,zI,zI,e,Nat.zero_add,List.set_append_left _ _ hi]
 | o::os,j+1,i,x,hj,hi=>by
  have e:fromO (o::os) (j+1)=o.2.length+fromO os j:=by unfold fromO;rw [List.take_succ_cons,zI,List.length_append]
  have b:=yv os j i x (by simpa using hj) (by simpa using hi)
  rw [ZP,zI,zI,e,b,List.set_append_right _ _ (by omega)]
  congr 2
  omega
theorem xd:∀(os:List Ob) (j i:Nat) (x:Vl) (o:Ob),o∈ZP os j i x→o∈os∨∃o'∈os,o=(o'.1,o'.2.set i x)
 | [],_,_,_,_,h=>by cases h
 | p::os,0,i,x,o,h=>by
  rw [ZP] at h;rcases List.mem_cons.1 h with h | h
  ·exact .inr ⟨p,List.mem_cons_self,h⟩
  ·exact .inl (List.mem_cons_of_mem _ h)
 | p::os,j+1,i,x,o,h=>by
  rw [ZP] at h;rcases List.mem_cons.1 h with h | h
  ·subst h;exact .inl List.mem_cons_self
  ·rcases xd os j i x o h with h | ⟨o',c,b⟩
   ·exact .inl (List.mem_cons_of_mem _ h)
   ·exact .inr ⟨o',List.mem_cons_of_mem _ c,b⟩
theorem vE:∀(l:List Vl) (i:Nat) (x:Vl),i<l.length→(((vlC l).set (i*3) (.int .i64 x.k)).set (i*3+1) (.int .i64 x.n)).set (i*3+2) (.string (za x.s))=vlC (l.set i x)
 | [],_,_,h=>by cases h
 | v::l,0,x,_=>by simp [vlC,YY]
 | v::l,i+1,x,h=>by
  have u:=vE l i x (by simpa using h)
  have e:vlC (v::l)=YY v++vlC l:=rfl;have o:vlC ((v::l).set (i+1) x)=YY v++vlC (l.set i x):=rfl
  have b:∀(c:List Value) (q:Nat) (a:Value),(YY v++c).set ((i+1)*3+q) a=YY v++c.set (i*3+q) a:=fun c q a=>by
   rw [List.set_append_right _ _ (by simp [YY];omega)]
   congr 2
   simp [YY]
   omega
  have m:=b (vlC l) 0 (.int .i64 x.k);simp only [Nat.add_zero] at m;rw [e,o,m,b,b,u]
theorem VL {w:World} {e n g cp:Nat} {l:List Vl} (h:w.ownsRow 0 e 3 (.slice (some ⟨g,0,none⟩) n cp) n (vlC l)) (i:Nat) (hi:i<l.length) (x:Vl) :
  (((w.setCell ⟨g,i*3,none⟩ (.int .i64 x.k)).setCell ⟨g,i*3+1,none⟩ (.int .i64 x.n)).setCell ⟨g,i*3+2,none⟩ (.string (za x.s))).ownsRow 0 e 3 (.slice (some ⟨g,0,none⟩) n cp) n (vlC (l.set i x)):=by
 refine ⟨by rw [Yx,List.length_set,←Yx];exact h.1,?_⟩
 rcases h.2 with ⟨b,_⟩ | ⟨B,u,y,b,c,z,m,A,o,q⟩
 ·cases b
 ·simp only [Value.slice.injEq,Option.some.injEq,Addr.mk.injEq] at b
  obtain ⟨⟨rfl,-,-⟩,-,rfl⟩:=b;refine .inr ⟨g,cp,_,rfl,c,zi _ (zi _ (zi _ z)),m,A,by simpa using o,?_⟩
  rw [←vE l i x hi,←q]
  simp [List.take_set]
theorem zx.set {S:Nat→Prop} {w:World} {most:Nat} {os:List Ob} {h g n cp:Nat} {vo:Value} (H:zx S w most os h vo (.slice (some ⟨g,0,none⟩) n cp)) (j i:Nat) (hj:j<os.length) (hi:i<(os[j]).2.length) (x:Vl) (hx:ZZ x os.length=true) (hs:zq x) :
  zx S (((w.setCell ⟨g,fromO os j*3+i*3,none⟩ (.int .i64 x.k)).setCell ⟨g,fromO os j*3+i*3+1,none⟩ (.int .i64 x.n)).setCell ⟨g,fromO os j*3+i*3+2,none⟩ (.string (za x.s))) most (ZP os j i x) h vo (.slice (some ⟨g,0,none⟩) n cp):=by
 have y:=H.apart;obtain ⟨F,-⟩:=ZO os j hj
 have E:n=(zo os).length:=by
  obtain ⟨b,c,m,-,-⟩:=Zp H.cells;simp only [Value.slice.injEq] at m;exact m.2.1
 subst E
 have q:∀k,k≠g→(((w.setCell ⟨g,fromO os j*3+i*3,none⟩ (.int .i64 x.k)).setCell ⟨g,fromO os j*3+i*3+1,none⟩ (.int .i64 x.n)).setCell ⟨g,fromO os j*3+i*3+2,none⟩ (.string (za x.s))).heap[k]?=w.heap[k]?:=fun k hk=>by
  rw [Below.heap_setCell _ _ _ _ (by simpa using hk),Below.heap_setCell _ _ _ _ (by simpa using hk),Below.heap_setCell _ _ _ _ (by simpa using hk)]
 refine ⟨?_,?_,?_,H.sh,H.so,H.sc,?_,?_,H.may⟩
 ·rw [q h (fun e=>y.2.1 (by rw [e];rfl))];exact H.blk
 ·rw [yc,YJ]
  exact zh H.objs fun k hk _=>q k fun e=>y.2.2 k hk (by rw [e];rfl)
 ·rw [yv os j i x hj hi,List.length_set]
  have D:=VL H.cells (fromO os j+i) (by omega) x
  rw [Nat.add_mul] at D;exact D
 ·intro o B
  rw [yc];rcases xd os j i x o B with B | ⟨o',A,rfl⟩
  ·exact H.ok o B
  ·have u:=H.ok o' A
   refine ⟨?_,u.2.1,fun v m=>?_⟩
   ·have z:=u.1
    unfold XQ at z ⊢
    rw [Bool.and_eq_true,List.all_eq_true] at z ⊢;refine ⟨fun v m=>?_,z.2⟩
    rcases List.mem_or_eq_of_mem_set m with m | rfl
    ·exact z.1 v m
    ·exact hx
   ·rcases List.mem_or_eq_of_mem_set m with m | rfl
    ·exact u.2.2 v m
    ·exact hs
 ·rw [yc,yv os j i x hj hi,List.length_set];exact H.use
theorem ze {ops:Array Oper} {rest:List Oper} {o:Oper} {a:Act} {w:World} {Q:Exit→Act→World→Prop} (hgd:o.guard=none) (s x:Operand)
  (ho:o.op=.call { callee:=.builtin .append,args:=#[s,x],argTypes:=#[44,9] })
  (B:Nat) (v:Value) (us:List UInt8) (hs:a.eval s=v) (hown:w.ownsRow B 5 1 v us.length (Lib.byteCells us)) (bs:List UInt8) (hx:a.eval x=.string (za bs))
  (hb:us.length+bs.length≤140737488355328) (hB:B≤w.heap.size)
  (h:∀c b,b.ownsRow B 5 1 c (us++bs).length (Lib.byteCells (us++bs))→w.grownBy b v.ownBlock→wpList Tryz.prog ops Q rest (a.put o.dst c) b):wpList Tryz.prog ops Q (o::rest) a w:=by
 obtain ⟨z,A,e,u,y⟩:=info_parts vt;refine Lib.wpList_append_own_string _ hgd s x 44 9 ho B 5 z Tryz.underlying44 Tryz.underlying9 A e u y v us.length _ hs hown (za bs) hx (by rw [zt];unfold maxLen;omega) (by rw [zt];omega) hB ?_
 intro c b q m _;refine h c b ?_ m;rw [List.length_append,Lib.byteCells_append];exact q
def xe:List UInt8:=[116,114,117,101]
def yX:List UInt8:=[102,97,108,115,101]
def Yi:List UInt8:=[110,111,110,101]
def zO:List UInt8:=[46,46,46]
def zX (v:Vl) (r:List UInt8):List UInt8 :=
 if v.k=1 then Lib.itoa v.n else if v.k=2 then (if v.n=1 then xe else yX) else if v.k=3 then (Xc 3 0 v.s).1 else if v.k=4 then r else Yi
def zg (f:Vl→List UInt8):List Vl→List UInt8
 | []=>[]
 | v::l=>f v++l.flatMap fun u=>[44,32]++f u
theorem XT (f:Vl→List UInt8) (l:List Vl) (v:Vl):zg f (l++[v])=zg f l++((if l=[] then [] else [44,32])++f v):=by
 cases l with
 | nil=>simp [zg]
 | cons x l=>simp [zg,List.flatMap_append]
def Ub (f:Vl→List UInt8) (o:Ob):List UInt8 :=
 (if o.1=[] then [91] else o.1++[40])++zg f (o.2.take 8)++(if 8<o.2.length then [44,32,46,46,46] else [])++(if o.1=[] then [93] else [41])
def zJ (os:List Ob):Nat→Vl→List UInt8
 | 0,v=>zX v zO
 | d+1,v=>zX v (Ub (zJ os d) ((os[v.n.toNat]?).getD ([],[])))
def yw (os:List Ob) (d:Nat) (o:Ob):List UInt8:=match d with
 | 0=>zO
 | d+1=>Ub (zJ os d) o
theorem xf (os:List Ob) (d:Nat) (v:Vl):zJ os d v=zX v (yw os d ((os[v.n.toNat]?).getD ([],[]))):=by cases d <;> rfl
def Zm (os:List Ob) (v:Vl):List UInt8:=if rightV v os.length=true then (if 200<(zJ os 2 v).length then (zJ os 2 v).take 197++zO else zJ os 2 v) else []
def Zf:Nat→Nat
 | 0=>3000000
 | d+1=>10*Zf d+3000000
theorem xF (d:Nat):3000000≤Zf d:=by cases d <;> simp [Zf]
theorem yY {v:Vl} {r:List UInt8} {N:Nat} (hv:zq v) (hr:r.length≤N) (hN:3000000≤N):(zX v r).length≤N:=by
 have b:=hv.2
 unfold zX
 split
 ·have:=Yw 2 v.n [] hv.1.1 hv.1.2
  rw [show YE 2 v.n []=Lib.itoa v.n from rfl] at this
  simp at this
  omega
 ·split
  ·split <;> simp [xe,yX] <;> omega
  ·split
   ·unfold Xc
    split
    ·have:=Yw 3 0 v.s (by omega) (by omega)
     simp only;omega
    ·simp
   ·split
    ·exact hr
    ·simp [Yi];omega
theorem yZ {f:Vl→List UInt8} {N:Nat}:∀(l:List Vl),(∀v∈l,(f v).length≤N)→(zg f l).length≤l.length*(N+2)
 | [],_=>by simp [zg]
 | v::l,h=>by
  have m:=h v List.mem_cons_self
  have:∀(l:List Vl),(∀u∈l,(f u).length≤N)→(l.flatMap fun u=>[44,32]++f u).length≤l.length*(N+2):=by
   intro l
   induction l with
   | nil=>simp
   | cons x l ih =>
    intro b;have c:=b x List.mem_cons_self;have e:=ih fun u hu=>b u (List.mem_cons_of_mem _ hu)
    rw [List.flatMap_cons,List.length_append,List.length_cons,Nat.add_mul];simp only [List.length_append,List.length_cons,List.length_nil];omega
  have c:=this l fun u hu=>h u (List.mem_cons_of_mem _ hu)
  simp only [zg,List.length_append,List.length_cons,Nat.add_mul];omega
theorem uy {f:Vl→List UInt8} {N:Nat} {o:Ob} (ho:o.1.length≤1048576) (h:∀v∈o.2,(f v).length≤N):(Ub f o).length≤10*N+3000000:=by
 have c:=yZ (f:=f) (N:=N) (o.2.take 8) fun v hv=>h v (List.mem_of_mem_take hv)
 have b:(o.2.take 8).length≤8:=by rw [List.length_take];omega
 have q:(o.2.take 8).length*(N+2)≤8*(N+2):=Nat.mul_le_mul_right _ b
 unfold Ub
 simp only [List.length_append];have e:(if o.1=[] then [(91:UInt8)] else o.1++[40]).length≤1048577:=by split <;> simp <;> omega
 have m:(if 8<o.2.length then [(44:UInt8),32,46,46,46] else []).length≤5:=by split <;> simp
 have u:(if o.1=[] then [(93:UInt8)] else [41]).length≤1:=by split <;> simp
 omega
theorem yL {os:List Ob} (hos:∀o∈os,Zj o):∀(d:Nat) (v:Vl),zq v→(zJ os d v).length≤Zf d
 | 0,v,hv=>yY hv (by simp [zO,Zf]) (by simp [Zf])
 | d+1,v,hv=>by
  refine yY hv ?_ (xF _);cases ho:os[v.n.toNat]? with
  | none=>simp [Ub,zg,Zf]
  | some o =>
   have b:=hos o (List.mem_of_getElem? ho);exact uy b.1 (fun u hu=>yL hos d u (b.2 u hu))
end Go.Proofs.YtbjndgachcdbcaaGreatDoor
