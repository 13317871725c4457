import Derived.Test.YtbjndgachcdbcaaGreatDoorMC10
import Derived.Test.YtbjndgachcdbcaaGreatDoorWAll
import Derived.Deep.RegionLaw
import Derived.Deep.DeepCutAuto
import Derived.BigRegion
import Derived.Test.YtbjndgachcdbcaaGreatDoorMC11
namespace Go.Proofs.YtbjndgachcdbcaaGreatDoor
open Go.RowKit Go.Shelf
theorem z7 {P:Program} {ops:Array Oper} {o:Oper} {a:Act} {w:World} {K:Act→World→Prop} {Q:Exit→Act→World→Prop} {E:Prop} (s x:Operand) (t:TypeId)
  (ho:o.op=.call { callee:=.builtin .append,args:=#[s,x],argTypes:=#[t,t] }) (hw:Region.wanted o (yielded ops a.tmps)=true)
  (base:Nat) (e:TypeId) (i:TypeInfo) (z:Value) (size bytes:Nat) (ht:P.underlying t=some (.slice e)) (hi:P.info? e=some i) (hz:i.zero=some z)
  (hsize:i.size=size) (hby:i.bytes=bytes) (hzs:z.cells.size=size) (hsz:0<size)
  (v:Value) (n:Nat) (xs:List Value) (hs:a.eval s=v) (hown:w.ownsRow base e size v n xs)
  (ad:Addr) (m c:Nat) (news:List Value) (hx:a.eval x=.slice (some ad) m c) (hl:news.length=m*size) (hnews:∀j u,news[j]?=some u→w.cell? (ad.add j)=some u) (h1:∀u∈news,u.oneCell'=true)
  (h63:n+m≤maxLen) (hbytes:(n+m)*bytes≤140737488355328) (hbase:base≤w.heap.size)
  (h:∀b q,q.ownsRow base e size b (n+m) (xs++news)→w.grownBy q v.ownBlock→(b.ownBlock=v.ownBlock∨b.ownBlock=some w.heap.size)→K (a.put o.dst b) q) :
  if Region.wanted o (yielded ops a.tmps)=true then Oper.wp P o a w K Q else E:=by
 rw [if_pos hw];obtain ⟨b,q,y,B,A,-,D⟩:=run_append_own_at (P:=P) w base t o.type e i z size bytes ht hi hz hsize hby hzs hsz v n xs hown ad m c news hl hnews h1 h63 hbytes hbase
 unfold Oper.wp
 simp [execOp,ho,resolve,invoke,builtin,hs,hx,y,Result.andThen]
 exact h b q B A D
theorem zj {w:World} {B e sz n k:Nat} {v:Value} {xs:List Value} (h:w.ownsRow B e sz v n xs) (hk:v.ownBlock=some k):∃b,w.heap[k]?=some (.cells b e (0,0)):=by
 rcases h.2 with ⟨rfl,_⟩ | ⟨g,m,b,rfl,_,c,_⟩
 ·simp [Value.ownBlock] at hk
 ·simp [Value.ownBlock] at hk
  subst hk;exact ⟨b,c⟩
theorem zs.apart {S:Nat→Prop} {w:World} {most:Nat} {os:List Ob} {h:Nat} {vo vc:Value} (H:zs S w most os h vo vc):vo.ownBlock≠some h∧vc.ownBlock≠some h∧∀k,vo.ownBlock=some k→vc.ownBlock≠some k:=by
 refine ⟨fun e=>?_,fun e=>?_,fun k e e'=>?_⟩
 ·obtain ⟨m,b⟩:=zj H.objs e
  rw [H.blk] at b
  simp at b
 ·obtain ⟨m,b⟩:=zj H.cells e
  rw [H.blk] at b
  simp at b
 ·obtain ⟨m,b⟩:=zj H.objs e
  obtain ⟨o,c⟩:=zj H.cells e';rw [b] at c
  simp at c
def Z6 (S:Nat→Prop) (w:World) (most:Nat) (os:List Ob) (h:Nat) (vo:Value) (tag:List UInt8) (vl:Value) (l:List Vl) (vc:Value) (wx:World):Prop :=
 wx.heap[h]?=some (.cells #[.bool true,.int .i64 (most:Int),vo,vc] 70 (0,0))∧wx.ownsRow 0 92 3 vo os.length (Zo 0 os)∧wx.ownsRow 0 56 3 vc ((zq os).length+l.length) (vlC (zq os)++vlC l) ∧
  wx.heap[w.heap.size]?=some (.cells #[.string (za tag),vl] 49 (0,0))∧zv S w wx∧∀k,vc.ownBlock=some k→S k∨w.heap.size≤k
theorem Z6.mk {S:Nat→Prop} {w w1 w2 w3:World} {most:Nat} {os:List Ob} {h:Nat} {vo vc vc':Value} {tag:List UInt8} {vl:Value} {l:List Vl} (hb1:Below w.heap.size w w1) (hz:w1.heap.size=w.heap.size+1) (hh:h<w.heap.size)
  (hblk1:w1.heap[w.heap.size]?=some (.cells #[.string (za tag),vl] 49 (0,0))) (H2:zs S w2 most os h vo vc) (hb2:Below w1.heap.size w1 w2) (hown:w3.ownsRow 0 56 3 vc' ((zq os).length+l.length) (vlC (zq os)++vlC l))
  (hg:w2.grownBy w3 vc.ownBlock) (hat:vc'.ownBlock=vc.ownBlock∨vc'.ownBlock=some w2.heap.size):Z6 S w most os h vo tag vl l vc' (w3.setCell ⟨h,3,none⟩ vc'):=by
 have c:=H2.apart;have z:w1.heap.size≤w2.heap.size:=hb2.size;have u:zv S w w3:=(zv.of (hb1.trans (hb2.mono (by omega)))).grown hg fun k e _=>H2.sc k e
 have o:∀k,vc'.ownBlock=some k→k≠h:=fun k e m=>by
  subst m;rcases hat with b | b
  ·exact c.2.1 (b.symm.trans e)
  ·rw [e] at b
   have:=Option.some.inj b
   omega
 have y:w.heap.size≠h:=by omega
 refine ⟨?_,?_,?_,?_,u.set _ (fun _=>H2.sh),fun k e=>?_⟩
 ·exact zi _ ((hg.block h H2.lt fun e=>c.2.1 e.symm).trans H2.blk)
 ·refine zh (w:=w3) (zh H2.objs fun k e hk=>hg.block k hk fun m=>c.2.2 k e m.symm) fun k e _=>Below.heap_setCell _ _ _ _ (by intro m;simp only at m;subst m;exact c.1 e)
 ·exact zh hown fun k e _=>Below.heap_setCell _ _ _ _ (o k e)
 ·rw [Below.heap_setCell _ _ _ _ (by simpa using y),hg.block _ (by omega) (fun e=>?_),hb2.block _ (by omega)]
  ·exact hblk1
  ·obtain ⟨A,q⟩:=zj H2.cells e.symm
   rw [hb2.block _ (by omega),hblk1] at q
   simp at q
 ·rcases hat with b | b
  ·exact .inl (H2.sc k (b.symm.trans e))
  ·rw [e] at b
   have:=Option.some.inj b
   right;omega
theorem Z6.done {S:Nat→Prop} {w wc w2 w3:World} {most:Nat} {os:List Ob} {h:Nat} {vo vo' vc:Value} {tag:List UInt8} {vl:Value} {l:List Vl} (hM:Z6 S w most os h vo tag vl l vc wc) (hh:h<w.heap.size) (hSh:S h) (hso:∀k,vo.ownBlock=some k→S k) (hb2:Below wc.heap.size wc w2)
  (hown:(w3.ownsRow 0 92 3 vo' (os.length+1) (Zo 0 os++[.string (za tag),.int .i64 ((zq os).length:Int),.int .i64 ((zq os).length+l.length:Int)])))
  (o:Obj) (hg:(w2.alloc o).grownBy w3 vo.ownBlock) (hat:vo'.ownBlock=vo.ownBlock∨vo'.ownBlock=some (w2.alloc o).heap.size) (hok:∀o∈os++[(tag,l)],xb o (os++[(tag,l)]).length=true∧Ze o) (hu:os.length+(zq os).length+1+l.length≤most) (hmay:most≤4096) :
  zv S w (w3.setCell ⟨h,2,none⟩ vo')∧zs (fun k=>S k∨w.heap.size≤k) (w3.setCell ⟨h,2,none⟩ vo') most (os++[(tag,l)]) h vo' vc:=by
 obtain ⟨A,G,E,T,H,K⟩:=hM;have M:=H.size;have J:=hb2.size;have R:(w2.alloc o).heap.size=w2.heap.size+1:=by simp
 have B:h<wc.heap.size:=(Array.getElem?_eq_some_iff.1 A).1
 have u:vo.ownBlock≠some h:=fun e=>by
  obtain ⟨z,q⟩:=zj G e;rw [A] at q;simp at q
 have F:vc.ownBlock≠some h:=fun e=>by
  obtain ⟨z,q⟩:=zj E e;rw [A] at q;simp at q
 have D:∀k,vc.ownBlock=some k→vo.ownBlock≠some k:=fun k e e'=>by
  obtain ⟨z,q⟩:=zj G e';obtain ⟨I,y⟩:=zj E e;rw [q] at y;simp at y
 have m:∀k,vo'.ownBlock=some k→vo.ownBlock=some k∨wc.heap.size≤k:=fun k e=>by
  rcases hat with c | c
  ·exact .inl (c.symm.trans e)
  ·rw [e] at c
   have:=Option.some.inj c
   right;omega
 have b:∀k,k<wc.heap.size→vo.ownBlock≠some k→w3.heap[k]?=wc.heap[k]?:=fun k hk hne=>by
  rw [hg.block k (by omega) (fun e=>hne e.symm),Below.heap_alloc _ _ _ (by omega),hb2.block k hk]
 have O:zv S w w3:=(H.trans (zv.of (S:=S) hb2) fun _ _ h=>h).alloc o |>.grown hg fun k e _=>hso k e
 refine ⟨O.set _ (fun _=>hSh),?_⟩
 refine ⟨?_,?_,?_,.inl hSh,fun k e=>?_,fun k e=>K k e,hok,?_,hmay⟩
 ·exact zi _ ((b h B u).trans A)
 ·rw [yZ,List.length_append]
  refine zh (w:=w3) ?_ fun k e _=>Below.heap_setCell _ _ _ _ (fun e'=>?_)
  ·simpa using hown
  ·simp only at e'
   subst e';rcases m k e with c | c
   ·exact u c
   ·omega
 ·rw [Zr,List.length_append,xV]
  exact zh E fun k e hk=>(Below.heap_setCell _ _ _ _ (fun e'=>F (by simp only at e';rw [e,e']))).trans (b k hk (D k e))
 ·rcases m k e with c | c
  ·exact .inl (hso k c)
  ·right;omega
 ·rw [Zr,List.length_append,List.length_append,List.length_singleton];simp only;omega
abbrev UV (w:World) (tag:List UInt8) (vl:Value):World:=(w.alloc (.cells #[.int .i64 0,.int .i64 0,.string ⟨#[]⟩] 56)).alloc (.cells #[.string (za tag),vl] 49)
end Go.Proofs.YtbjndgachcdbcaaGreatDoor
