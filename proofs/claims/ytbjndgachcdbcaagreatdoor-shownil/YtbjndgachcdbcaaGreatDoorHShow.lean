import Derived.Test.YtbjndgachcdbcaaGreatDoorMC13
import Derived.Lib.AppendStr
namespace Go.Proofs.YtbjndgachcdbcaaGreatDoor
open Go.RowKit Go.Shelf
set_option maxRecDepth 100000
theorem ze {ops:Array Oper} {rest:List Oper} {o:Oper} {a:Act} {w:World} {Q:Exit→Act→World→Prop} (hgd:o.guard=none) (s x:Operand)
  (ho:o.op=.call { callee:=.builtin .append,args:=#[s,x],argTypes:=#[44,9] })
  (B:Nat) (v:Value) (us:List UInt8) (hs:a.eval s=v) (hown:w.ownsRow B 5 1 v us.length (Lib.byteCells us)) (bs:List UInt8) (hx:a.eval x=.string (za bs))
  (hb:us.length+bs.length≤140737488355328) (hB:B≤w.heap.size)
  (h:∀c b,b.ownsRow B 5 1 c (us++bs).length (Lib.byteCells (us++bs))→w.grownBy b v.ownBlock→wpList Tryz.prog ops Q rest (a.put o.dst c) b):wpList Tryz.prog ops Q (o::rest) a w:=by
 obtain ⟨z,A,q,y,u⟩:=info_parts XN;refine Lib.wpList_append_own_string _ hgd s x 44 9 ho B 5 z Tryz.underlying44 Tryz.underlying9 A q y u v us.length _ hs hown (za bs) hx (by rw [zo];unfold maxLen;omega) (by rw [zo];omega) hB ?_
 intro c b m e _;refine h c b ?_ e;rw [List.length_append,Lib.byteCells_append];exact m
def YW:List UInt8:=[116,114,117,101]
def yy:List UInt8:=[102,97,108,115,101]
def yQ:List UInt8:=[110,111,110,101]
def zS:List UInt8:=[46,46,46]
def zT (v:Vl) (r:List UInt8):List UInt8 :=
 if v.k=1 then Lib.itoa v.n else if v.k=2 then (if v.n=1 then YW else yy) else if v.k=3 then (xH 3 0 v.s).1 else if v.k=4 then r else yQ
def zg (f:Vl→List UInt8):List Vl→List UInt8
 | []=>[]
 | v::l=>f v++l.flatMap fun u=>[44,32]++f u
theorem Xr (f:Vl→List UInt8) (l:List Vl) (v:Vl):zg f (l++[v])=zg f l++((if l=[] then [] else [44,32])++f v):=by
 cases l with
 | nil=>simp [zg]
 | cons x l=>simp [zg,List.flatMap_append]
def uc (f:Vl→List UInt8) (o:Ob):List UInt8 :=
 (if o.1=[] then [91] else o.1++[40])++zg f (o.2.take 8)++(if 8<o.2.length then [44,32,46,46,46] else [])++(if o.1=[] then [93] else [41])
def zH (os:List Ob):Nat→Vl→List UInt8
 | 0,v=>zT v zS
 | d+1,v=>zT v (uc (zH os d) ((os[v.n.toNat]?).getD ([],[])))
def ye (os:List Ob) (d:Nat) (o:Ob):List UInt8:=match d with
 | 0=>zS
 | d+1=>uc (zH os d) o
theorem YX (os:List Ob) (d:Nat) (v:Vl):zH os d v=zT v (ye os d ((os[v.n.toNat]?).getD ([],[]))):=by cases d <;> rfl
def Ze (os:List Ob) (v:Vl):List UInt8:=if zb v os.length=true then (if 200<(zH os 2 v).length then (zH os 2 v).take 197++zS else zH os 2 v) else []
def z8:Nat→Nat
 | 0=>3000000
 | d+1=>10*z8 d+3000000
theorem xh (d:Nat):3000000≤z8 d:=by cases d <;> simp [z8]
theorem yz {v:Vl} {r:List UInt8} {N:Nat} (hv:zw v) (hr:r.length≤N) (hN:3000000≤N):(zT v r).length≤N:=by
 have b:=hv.2
 unfold zT
 split
 ·have:=y6 2 v.n [] hv.1.1 hv.1.2
  rw [show Ye 2 v.n []=Lib.itoa v.n from rfl] at this
  simp at this
  omega
 ·split
  ·split <;> simp [YW,yy] <;> omega
  ·split
   ·unfold xH
    split
    ·have:=y6 3 0 v.s (by omega) (by omega)
     simp only;omega
    ·simp
   ·split
    ·exact hr
    ·simp [yQ];omega
theorem yA {f:Vl→List UInt8} {N:Nat}:∀(l:List Vl),(∀v∈l,(f v).length≤N)→(zg f l).length≤l.length*(N+2)
 | [],_=>by simp [zg]
 | v::l,h=>by
  have e:=h v List.mem_cons_self
  have:∀(l:List Vl),(∀u∈l,(f u).length≤N)→(l.flatMap fun u=>[44,32]++f u).length≤l.length*(N+2):=by
   intro l
   induction l with
   | nil=>simp
   | cons x l ih =>
    intro b;have c:=b x List.mem_cons_self;have m:=ih fun u hu=>b u (List.mem_cons_of_mem _ hu)
    rw [List.flatMap_cons,List.length_append,List.length_cons,Nat.add_mul];simp only [List.length_append,List.length_cons,List.length_nil];omega
  have c:=this l fun u hu=>h u (List.mem_cons_of_mem _ hu)
  simp only [zg,List.length_append,List.length_cons,Nat.add_mul];omega
theorem VL {f:Vl→List UInt8} {N:Nat} {o:Ob} (ho:o.1.length≤1048576) (h:∀v∈o.2,(f v).length≤N):(uc f o).length≤10*N+3000000:=by
 have q:=yA (f:=f) (N:=N) (o.2.take 8) fun v hv=>h v (List.mem_of_mem_take hv)
 have b:(o.2.take 8).length≤8:=by rw [List.length_take];omega
 have e:(o.2.take 8).length*(N+2)≤8*(N+2):=Nat.mul_le_mul_right _ b
 unfold uc
 simp only [List.length_append];have u:(if o.1=[] then [(91:UInt8)] else o.1++[40]).length≤1048577:=by split <;> simp <;> omega
 have m:(if 8<o.2.length then [(44:UInt8),32,46,46,46] else []).length≤5:=by split <;> simp
 have c:(if o.1=[] then [(93:UInt8)] else [41]).length≤1:=by split <;> simp
 omega
theorem yp {os:List Ob} (hos:∀o∈os,Yf o):∀(d:Nat) (v:Vl),zw v→(zH os d v).length≤z8 d
 | 0,v,hv=>yz hv (by simp [zS,z8]) (by simp [z8])
 | d+1,v,hv=>by
  refine yz hv ?_ (xh _);cases ho:os[v.n.toNat]? with
  | none=>simp [uc,zg,z8]
  | some o =>
   have b:=hos o (List.mem_of_getElem? ho);exact VL b.1 (fun u hu=>yp hos d u (b.2 u hu))
end Go.Proofs.YtbjndgachcdbcaaGreatDoor
