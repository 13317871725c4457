import Derived.Test.YtbjndgachcdbcaaGreatDoorMC10
import Derived.Test.YtbjndgachcdbcaaGreatDoorWAll
import Derived.Deep.RegionLaw
import Derived.Deep.DeepCutAuto
import Derived.BigRegion
import Derived.Test.YtbjndgachcdbcaaGreatDoorMC11
namespace Go.Proofs.YtbjndgachcdbcaaGreatDoor
open Go.RowKit Go.Shelf
theorem zs {w:World} {B e sz n k:Nat} {v:Value} {xs:List Value} (h:w.ownsRow B e sz v n xs) (hk:v.ownBlock=some k):∃b,w.heap[k]?=some (.cells b e (0,0)):=by
 rcases h.2 with ⟨rfl,_⟩ | ⟨g,m,b,rfl,_,c,_⟩
 ·simp [Value.ownBlock] at hk
 ·simp [Value.ownBlock] at hk
  subst hk;exact ⟨b,c⟩
theorem zA.apart {S:Nat→Prop} {w:World} {most:Nat} {os:List Ob} {h:Nat} {vo vc:Value} (H:zA S w most os h vo vc):vo.ownBlock≠some h∧vc.ownBlock≠some h∧∀k,vo.ownBlock=some k→vc.ownBlock≠some k:=by
 refine ⟨fun e=>?_,fun e=>?_,fun k e e'=>?_⟩
 ·obtain ⟨m,b⟩:=zs H.objs e
  rw [H.blk] at b
  simp at b
 ·obtain ⟨m,b⟩:=zs H.cells e
  rw [H.blk] at b
  simp at b
 ·obtain ⟨m,b⟩:=zs H.objs e
  obtain ⟨o,c⟩:=zs H.cells e';rw [b] at c
  simp at c
def xe (S:Nat→Prop) (w:World) (most:Nat) (os:List Ob) (h:Nat) (vo:Value) (tag:List UInt8) (vl:Value) (l:List Vl) (vc:Value) (wx:World):Prop :=
 wx.heap[h]?=some (.cells #[.bool true,.int .i64 (most:Int),vo,vc] 70 (0,0))∧wx.ownsRow 0 92 3 vo os.length (Zz 0 os)∧wx.ownsRow 0 56 3 vc ((zX os).length+l.length) (Zr (zX os)++Zr l) ∧
  wx.heap[w.heap.size]?=some (.cells #[.string (za tag),vl] 49 (0,0))∧zx S w wx∧∀k,vc.ownBlock=some k→S k∨w.heap.size≤k
theorem xe.mk {S:Nat→Prop} {w w1 w2 w3:World} {most:Nat} {os:List Ob} {h:Nat} {vo vc vc':Value} {tag:List UInt8} {vl:Value} {l:List Vl} (hb1:Below w.heap.size w w1) (hz:w1.heap.size=w.heap.size+1) (hh:h<w.heap.size)
  (hblk1:w1.heap[w.heap.size]?=some (.cells #[.string (za tag),vl] 49 (0,0))) (H2:zA S w2 most os h vo vc) (hb2:Below w1.heap.size w1 w2) (hown:w3.ownsRow 0 56 3 vc' ((zX os).length+l.length) (Zr (zX os)++Zr l))
  (hg:w2.grownBy w3 vc.ownBlock) (hat:vc'.ownBlock=vc.ownBlock∨vc'.ownBlock=some w2.heap.size):xe S w most os h vo tag vl l vc' (w3.setCell ⟨h,3,none⟩ vc'):=by
 have c:=H2.apart;have x:w1.heap.size≤w2.heap.size:=hb2.size;have u:zx S w w3:=(zx.of (hb1.trans (hb2.mono (by omega)))).grown hg fun k e _=>H2.sc k e
 have o:∀k,vc'.ownBlock=some k→k≠h:=fun k e m=>by
  subst m;rcases hat with b | b
  ·exact c.2.1 (b.symm.trans e)
  ·rw [e] at b
   have:=Option.some.inj b
   omega
 have y:w.heap.size≠h:=by omega
 refine ⟨?_,?_,?_,?_,u.set _ (fun _=>H2.sh),fun k e=>?_⟩
 ·exact zn _ ((hg.block h H2.lt fun e=>c.2.1 e.symm).trans H2.blk)
 ·refine zm (w:=w3) (zm H2.objs fun k e hk=>hg.block k hk fun m=>c.2.2 k e m.symm) fun k e _=>Below.heap_setCell _ _ _ _ (by intro m;simp only at m;subst m;exact c.1 e)
 ·exact zm hown fun k e _=>Below.heap_setCell _ _ _ _ (o k e)
 ·rw [Below.heap_setCell _ _ _ _ (by simpa using y),hg.block _ (by omega) (fun e=>?_),hb2.block _ (by omega)]
  ·exact hblk1
  ·obtain ⟨z,q⟩:=zs H2.cells e.symm
   rw [hb2.block _ (by omega),hblk1] at q
   simp at q
 ·rcases hat with b | b
  ·exact .inl (H2.sc k (b.symm.trans e))
  ·rw [e] at b
   have:=Option.some.inj b
   right;omega
theorem xe.done {S:Nat→Prop} {w wc w2 w3:World} {most:Nat} {os:List Ob} {h:Nat} {vo vo' vc:Value} {tag:List UInt8} {vl:Value} {l:List Vl} (hM:xe S w most os h vo tag vl l vc wc) (hh:h<w.heap.size) (hSh:S h) (hso:∀k,vo.ownBlock=some k→S k) (hb2:Below wc.heap.size wc w2)
  (hown:(w3.ownsRow 0 92 3 vo' (os.length+1) (Zz 0 os++[.string (za tag),.int .i64 ((zX os).length:Int),.int .i64 ((zX os).length+l.length:Int)])))
  (o:Obj) (hg:(w2.alloc o).grownBy w3 vo.ownBlock) (hat:vo'.ownBlock=vo.ownBlock∨vo'.ownBlock=some (w2.alloc o).heap.size) (hok:∀o∈os++[(tag,l)],uw o (os++[(tag,l)]).length=true∧Yf o) (hu:os.length+(zX os).length+1+l.length≤most) (hmay:most≤4096) :
  zx S w (w3.setCell ⟨h,2,none⟩ vo')∧zA (fun k=>S k∨w.heap.size≤k) (w3.setCell ⟨h,2,none⟩ vo') most (os++[(tag,l)]) h vo' vc:=by
 obtain ⟨z,G,B,R,H,I⟩:=hM;have K:=H.size;have O:=hb2.size;have J:(w2.alloc o).heap.size=w2.heap.size+1:=by simp
 have D:h<wc.heap.size:=(Array.getElem?_eq_some_iff.1 z).1
 have u:vo.ownBlock≠some h:=fun e=>by
  obtain ⟨y,q⟩:=zs G e;rw [z] at q;simp at q
 have E:vc.ownBlock≠some h:=fun e=>by
  obtain ⟨y,q⟩:=zs B e;rw [z] at q;simp at q
 have A:∀k,vc.ownBlock=some k→vo.ownBlock≠some k:=fun k e e'=>by
  obtain ⟨y,q⟩:=zs G e';obtain ⟨F,x⟩:=zs B e;rw [q] at x;simp at x
 have m:∀k,vo'.ownBlock=some k→vo.ownBlock=some k∨wc.heap.size≤k:=fun k e=>by
  rcases hat with c | c
  ·exact .inl (c.symm.trans e)
  ·rw [e] at c
   have:=Option.some.inj c
   right;omega
 have b:∀k,k<wc.heap.size→vo.ownBlock≠some k→w3.heap[k]?=wc.heap[k]?:=fun k hk hne=>by
  rw [hg.block k (by omega) (fun e=>hne e.symm),Below.heap_alloc _ _ _ (by omega),hb2.block k hk]
 have M:zx S w w3:=(H.trans (zx.of (S:=S) hb2) fun _ _ h=>h).alloc o |>.grown hg fun k e _=>hso k e
 refine ⟨M.set _ (fun _=>hSh),?_⟩
 refine ⟨?_,?_,?_,.inl hSh,fun k e=>?_,fun k e=>I k e,hok,?_,hmay⟩
 ·exact zn _ ((b h D u).trans z)
 ·rw [YT,List.length_append]
  refine zm (w:=w3) ?_ fun k e _=>Below.heap_setCell _ _ _ _ (fun e'=>?_)
  ·simpa using hown
  ·simp only at e'
   subst e';rcases m k e with c | c
   ·exact u c
   ·omega
 ·rw [YS,List.length_append,VE]
  exact zm B fun k e hk=>(Below.heap_setCell _ _ _ _ (fun e'=>E (by simp only at e';rw [e,e']))).trans (b k hk (A k e))
 ·rcases m k e with c | c
  ·exact .inl (hso k c)
  ·right;omega
 ·rw [YS,List.length_append,List.length_append,List.length_singleton];simp only;omega
abbrev uz (w:World) (tag:List UInt8) (vl:Value):World:=(w.alloc (.cells #[.int .i64 0,.int .i64 0,.string ⟨#[]⟩] 56)).alloc (.cells #[.string (za tag),vl] 49)
end Go.Proofs.YtbjndgachcdbcaaGreatDoor
