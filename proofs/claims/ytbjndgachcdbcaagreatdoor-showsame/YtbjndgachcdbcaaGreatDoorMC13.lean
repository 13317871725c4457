import Derived.Test.YtbjndgachcdbcaaGreatDoorMC12
import Derived.Deep.RegionWith
import Derived.Lib.AppendStr
namespace Go.Proofs.YtbjndgachcdbcaaGreatDoor
open Go.RowKit Go.Shelf
set_option maxRecDepth 100000
def vy (os:List Ob) (v:Vl):Bool:=decide (v.k=4)&&rightV v os.length
theorem VI {os:List Ob} {v:Vl} (h:vy os v=true):∃i:Nat,i<os.length∧v=⟨4,i,[]⟩:=by
 unfold vy at h
 rw [Bool.and_eq_true,decide_eq_true_eq] at h;obtain ⟨b,c⟩:=h;obtain ⟨k,n,s⟩:=v;simp only at b;subst b
 simp [rightV] at c
 obtain ⟨⟨m,o⟩,e⟩:=c;refine ⟨n.toNat,by omega,?_⟩
 rw [e]
 congr 1
 omega
theorem Ue {os:List Ob} {v:Vl} (h:vy os v=false):v.k≠4∨rightV v os.length=false:=by
 unfold vy at h
 rw [Bool.and_eq_false_iff,decide_eq_false_iff_not] at h;exact h
abbrev U0 (w:World) (v:Vl):World:=(w.alloc (.cells #[.int .i64 v.k,.int .i64 v.n,.string (za v.s)] 56)).alloc (.cells #[.int .i64 0,.int .i64 0,.string ⟨#[]⟩] 56)
abbrev U1 (w:World) (v x:Vl):World:=(w.alloc (.cells #[.int .i64 v.k,.int .i64 v.n,.string (za v.s)] 56)).alloc (.cells #[.int .i64 x.k,.int .i64 x.n,.string (za x.s)] 56)
def ZY:List Ob→Nat→Nat→Vl→List Ob
 | [],_,_,_=>[]
 | o::os,0,i,x=>(o.1,o.2.set i x)::os
 | o::os,j+1,i,x=>o::ZY os j i x
theorem yk:∀(os:List Ob) (j i:Nat) (x:Vl),(ZY os j i x).length=os.length
 | [],_,_,_=>rfl
 | o::os,0,i,x=>rfl
 | o::os,j+1,i,x=>by rw [ZY,List.length_cons,List.length_cons,yk]
theorem YS:∀(os:List Ob) (a j i:Nat) (x:Vl),Zo a (ZY os j i x)=Zo a os
 | [],_,_,_,_=>rfl
 | o::os,a,0,i,x=>by simp [ZY,Zo]
 | o::os,a,j+1,i,x=>by rw [ZY,Zo,Zo,YS]
theorem yC:∀(os:List Ob) (j i:Nat) (x:Vl) (hj:j<os.length),i<(os[j]).2.length→zq (ZY os j i x)=(zq os).set (fromO os j+i) x
 | [],_,_,_,h,_=>by cases h
 | o::os,0,i,x,_,hi=>by
  have e:fromO (o::os) 0=0:=rfl;simp only [List.getElem_cons_zero] at hi;rw [ZY,zL,zL,e,Nat.zero_add,List.set_append_left _ _ hi]
 | o::os,j+1,i,x,hj,hi=>by
  have e:fromO (o::os) (j+1)=o.2.length+fromO os j:=by unfold fromO;rw [List.take_succ_cons,zL,List.length_append]
  have b:=yC os j i x (by simpa using hj) (by simpa using hi)
  rw [ZY,zL,zL,e,b,List.set_append_right _ _ (by omega)]
  congr 2
  omega
theorem xx:∀(os:List Ob) (j i:Nat) (x:Vl) (o:Ob),o∈ZY os j i x→o∈os∨∃o'∈os,o=(o'.1,o'.2.set i x)
 | [],_,_,_,_,h=>by cases h
 | p::os,0,i,x,o,h=>by
  rw [ZY] at h;rcases List.mem_cons.1 h with h | h
  ·exact .inr ⟨p,List.mem_cons_self,h⟩
  ·exact .inl (List.mem_cons_of_mem _ h)
 | p::os,j+1,i,x,o,h=>by
  rw [ZY] at h;rcases List.mem_cons.1 h with h | h
  ·subst h;exact .inl List.mem_cons_self
  ·rcases xx os j i x o h with h | ⟨o',c,b⟩
   ·exact .inl (List.mem_cons_of_mem _ h)
   ·exact .inr ⟨o',List.mem_cons_of_mem _ c,b⟩
theorem Vi:∀(l:List Vl) (i:Nat) (x:Vl),i<l.length→(((vlC l).set (i*3) (.int .i64 x.k)).set (i*3+1) (.int .i64 x.n)).set (i*3+2) (.string (za x.s))=vlC (l.set i x)
 | [],_,_,h=>by cases h
 | v::l,0,x,_=>by simp [vlC,xa]
 | v::l,i+1,x,h=>by
  have u:=Vi l i x (by simpa using h)
  have e:vlC (v::l)=xa v++vlC l:=rfl;have o:vlC ((v::l).set (i+1) x)=xa v++vlC (l.set i x):=rfl
  have b:∀(c:List Value) (q:Nat) (a:Value),(xa v++c).set ((i+1)*3+q) a=xa v++c.set (i*3+q) a:=fun c q a=>by
   rw [List.set_append_right _ _ (by simp [xa];omega)]
   congr 2
   simp [xa]
   omega
  have m:=b (vlC l) 0 (.int .i64 x.k);simp only [Nat.add_zero] at m;rw [e,o,m,b,b,u]
theorem ul {w:World} {e n g cp:Nat} {l:List Vl} (h:w.ownsRow 0 e 3 (.slice (some ⟨g,0,none⟩) n cp) n (vlC l)) (i:Nat) (hi:i<l.length) (x:Vl) :
  (((w.setCell ⟨g,i*3,none⟩ (.int .i64 x.k)).setCell ⟨g,i*3+1,none⟩ (.int .i64 x.n)).setCell ⟨g,i*3+2,none⟩ (.string (za x.s))).ownsRow 0 e 3 (.slice (some ⟨g,0,none⟩) n cp) n (vlC (l.set i x)):=by
 refine ⟨by rw [YH,List.length_set,←YH];exact h.1,?_⟩
 rcases h.2 with ⟨b,_⟩ | ⟨B,m,A,b,c,q,u,y,z,o⟩
 ·cases b
 ·simp only [Value.slice.injEq,Option.some.injEq,Addr.mk.injEq] at b
  obtain ⟨⟨rfl,-,-⟩,-,rfl⟩:=b;refine .inr ⟨g,cp,_,rfl,c,zi _ (zi _ (zi _ q)),u,y,by simpa using z,?_⟩
  rw [←Vi l i x hi,←o]
  simp [List.take_set]
theorem zs.set {S:Nat→Prop} {w:World} {most:Nat} {os:List Ob} {h g n cp:Nat} {vo:Value} (H:zs S w most os h vo (.slice (some ⟨g,0,none⟩) n cp)) (j i:Nat) (hj:j<os.length) (hi:i<(os[j]).2.length) (x:Vl) (hx:ZW x os.length=true) (hs:zr x) :
  zs S (((w.setCell ⟨g,fromO os j*3+i*3,none⟩ (.int .i64 x.k)).setCell ⟨g,fromO os j*3+i*3+1,none⟩ (.int .i64 x.n)).setCell ⟨g,fromO os j*3+i*3+2,none⟩ (.string (za x.s))) most (ZY os j i x) h vo (.slice (some ⟨g,0,none⟩) n cp):=by
 have y:=H.apart;obtain ⟨E,-⟩:=ZX os j hj
 have F:n=(zq os).length:=by
  obtain ⟨b,c,m,-,-⟩:=zT H.cells;simp only [Value.slice.injEq] at m;exact m.2.1
 subst F
 have q:∀k,k≠g→(((w.setCell ⟨g,fromO os j*3+i*3,none⟩ (.int .i64 x.k)).setCell ⟨g,fromO os j*3+i*3+1,none⟩ (.int .i64 x.n)).setCell ⟨g,fromO os j*3+i*3+2,none⟩ (.string (za x.s))).heap[k]?=w.heap[k]?:=fun k hk=>by
  rw [Below.heap_setCell _ _ _ _ (by simpa using hk),Below.heap_setCell _ _ _ _ (by simpa using hk),Below.heap_setCell _ _ _ _ (by simpa using hk)]
 refine ⟨?_,?_,?_,H.sh,H.so,H.sc,?_,?_,H.may⟩
 ·rw [q h (fun e=>y.2.1 (by rw [e];rfl))];exact H.blk
 ·rw [yk,YS]
  exact zh H.objs fun k hk _=>q k fun e=>y.2.2 k hk (by rw [e];rfl)
 ·rw [yC os j i x hj hi,List.length_set]
  have D:=ul H.cells (fromO os j+i) (by omega) x
  rw [Nat.add_mul] at D;exact D
 ·intro o B
  rw [yk];rcases xx os j i x o B with B | ⟨o',A,rfl⟩
  ·exact H.ok o B
  ·have u:=H.ok o' A
   refine ⟨?_,u.2.1,fun v m=>?_⟩
   ·have z:=u.1
    unfold xb at z ⊢
    rw [Bool.and_eq_true,List.all_eq_true] at z ⊢;refine ⟨fun v m=>?_,z.2⟩
    rcases List.mem_or_eq_of_mem_set m with m | rfl
    ·exact z.1 v m
    ·exact hx
   ·rcases List.mem_or_eq_of_mem_set m with m | rfl
    ·exact u.2.2 v m
    ·exact hs
 ·rw [yk,yC os j i x hj hi,List.length_set];exact H.use
theorem ze {ops:Array Oper} {rest:List Oper} {o:Oper} {a:Act} {w:World} {Q:Exit→Act→World→Prop} (hgd:o.guard=none) (s x:Operand)
  (ho:o.op=.call { callee:=.builtin .append,args:=#[s,x],argTypes:=#[44,9] })
  (B:Nat) (v:Value) (us:List UInt8) (hs:a.eval s=v) (hown:w.ownsRow B 5 1 v us.length (Lib.byteCells us)) (bs:List UInt8) (hx:a.eval x=.string (za bs))
  (hb:us.length+bs.length≤140737488355328) (hB:B≤w.heap.size)
  (h:∀c b,b.ownsRow B 5 1 c (us++bs).length (Lib.byteCells (us++bs))→w.grownBy b v.ownBlock→wpList Tryz.prog ops Q rest (a.put o.dst c) b):wpList Tryz.prog ops Q (o::rest) a w:=by
 obtain ⟨A,z,e,q,u⟩:=info_parts vZ;refine Lib.wpList_append_own_string _ hgd s x 44 9 ho B 5 A Tryz.underlying44 Tryz.underlying9 z e q u v us.length _ hs hown (za bs) hx (by rw [zu];unfold maxLen;omega) (by rw [zu];omega) hB ?_
 intro c b m y _;refine h c b ?_ y;rw [List.length_append,Lib.byteCells_append];exact m
def xy:List UInt8:=[116,114,117,101]
def y5:List UInt8:=[102,97,108,115,101]
def Yq:List UInt8:=[110,111,110,101]
def z8:List UInt8:=[46,46,46]
def zX (v:Vl) (r:List UInt8):List UInt8 :=
 if v.k=1 then Lib.itoa v.n else if v.k=2 then (if v.n=1 then xy else y5) else if v.k=3 then (Xy 3 0 v.s).1 else if v.k=4 then r else Yq
def zf (f:Vl→List UInt8):List Vl→List UInt8
 | []=>[]
 | v::l=>f v++l.flatMap fun u=>[44,32]++f u
theorem vz (f:Vl→List UInt8) (l:List Vl) (v:Vl):zf f (l++[v])=zf f l++((if l=[] then [] else [44,32])++f v):=by
 cases l with
 | nil=>simp [zf]
 | cons x l=>simp [zf,List.flatMap_append]
def Uw (f:Vl→List UInt8) (o:Ob):List UInt8 :=
 (if o.1=[] then [91] else o.1++[40])++zf f (o.2.take 8)++(if 8<o.2.length then [44,32,46,46,46] else [])++(if o.1=[] then [93] else [41])
def zy (os:List Ob):Nat→Vl→List UInt8
 | 0,v=>zX v z8
 | d+1,v=>zX v (Uw (zy os d) ((os[v.n.toNat]?).getD ([],[])))
def yD (os:List Ob) (d:Nat) (o:Ob):List UInt8:=match d with
 | 0=>z8
 | d+1=>Uw (zy os d) o
theorem xz (os:List Ob) (d:Nat) (v:Vl):zy os d v=zX v (yD os d ((os[v.n.toNat]?).getD ([],[]))):=by cases d <;> rfl
def Za (os:List Ob) (v:Vl):List UInt8:=if rightV v os.length=true then (if 200<(zy os 2 v).length then (zy os 2 v).take 197++z8 else zy os 2 v) else []
def Zj:Nat→Nat
 | 0=>3000000
 | d+1=>10*Zj d+3000000
theorem xW (d:Nat):3000000≤Zj d:=by cases d <;> simp [Zj]
theorem y6 {v:Vl} {r:List UInt8} {N:Nat} (hv:zr v) (hr:r.length≤N) (hN:3000000≤N):(zX v r).length≤N:=by
 have b:=hv.2
 unfold zX
 split
 ·have:=YG 2 v.n [] hv.1.1 hv.1.2
  rw [show YN 2 v.n []=Lib.itoa v.n from rfl] at this
  simp at this
  omega
 ·split
  ·split <;> simp [xy,y5] <;> omega
  ·split
   ·unfold Xy
    split
    ·have:=YG 3 0 v.s (by omega) (by omega)
     simp only;omega
    ·simp
   ·split
    ·exact hr
    ·simp [Yq];omega
theorem Ya {f:Vl→List UInt8} {N:Nat}:∀(l:List Vl),(∀v∈l,(f v).length≤N)→(zf f l).length≤l.length*(N+2)
 | [],_=>by simp [zf]
 | v::l,h=>by
  have m:=h v List.mem_cons_self
  have:∀(l:List Vl),(∀u∈l,(f u).length≤N)→(l.flatMap fun u=>[44,32]++f u).length≤l.length*(N+2):=by
   intro l
   induction l with
   | nil=>simp
   | cons x l ih =>
    intro b;have c:=b x List.mem_cons_self;have e:=ih fun u hu=>b u (List.mem_cons_of_mem _ hu)
    rw [List.flatMap_cons,List.length_append,List.length_cons,Nat.add_mul];simp only [List.length_append,List.length_cons,List.length_nil];omega
  have c:=this l fun u hu=>h u (List.mem_cons_of_mem _ hu)
  simp only [zf,List.length_append,List.length_cons,Nat.add_mul];omega
theorem Uf {f:Vl→List UInt8} {N:Nat} {o:Ob} (ho:o.1.length≤1048576) (h:∀v∈o.2,(f v).length≤N):(Uw f o).length≤10*N+3000000:=by
 have q:=Ya (f:=f) (N:=N) (o.2.take 8) fun v hv=>h v (List.mem_of_mem_take hv)
 have b:(o.2.take 8).length≤8:=by rw [List.length_take];omega
 have e:(o.2.take 8).length*(N+2)≤8*(N+2):=Nat.mul_le_mul_right _ b
 unfold Uw
 simp only [List.length_append];have c:(if o.1=[] then [(91:UInt8)] else o.1++[40]).length≤1048577:=by split <;> simp <;> omega
 have m:(if 8<o.2.length then [(44:UInt8),32,46,46,46] else []).length≤5:=by split <;> simp
 have u:(if o.1=[] then [(93:UInt8)] else [41]).length≤1:=by split <;> simp
 omega
theorem yN {os:List Ob} (hos:∀o∈os,Ze o):∀(d:Nat) (v:Vl),zr v→(zy os d v).length≤Zj d
 | 0,v,hv=>y6 hv (by simp [z8,Zj]) (by simp [Zj])
 | d+1,v,hv=>by
  refine y6 hv ?_ (xW _);cases ho:os[v.n.toNat]? with
  | none=>simp [Uw,zf,Zj]
  | some o =>
   have b:=hos o (List.mem_of_getElem? ho);exact Uf b.1 (fun u hu=>yN hos d u (b.2 u hu))
end Go.Proofs.YtbjndgachcdbcaaGreatDoor
