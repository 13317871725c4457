import Derived.Test.YtbjndgachcdbcaaGreatDoorHWrite3
namespace Go.Proofs.YtbjndgachcdbcaaGreatDoor
open Go.RowKit Go.Shelf
set_option maxHeartbeats 16000000
set_option maxRecDepth 100000
theorem xQ:Yb 2:=Ym 2 (v7 1 (by omega) (Ym 1 (v7 0 (by omega) (Ym 0 Xs))))
theorem Xu (w:World) (v:Vl) (B:Nat) (hB:w.heap.size<B):zC (fun k=>k<B) (w.alloc (.cells #[.int .i64 v.k,.int .i64 v.n,.string (za v.s)] 56)) (.slice (some ⟨w.heap.size,0,none⟩) 1 1) [v]:=by
 refine ⟨_,1,rfl,by simp,by unfold maxLen;omega,.inr ⟨w.heap.size,0,rfl,hB,by simp,fun j u hj=>?_⟩⟩
 have b:=X8 w [.int .i64 v.k,.int .i64 v.n,.string (za v.s)] 56 j u (by rw [VF] at hj;exact hj)
 by_cases h0:j=0
 ·subst h0;simpa [Addr.add] using b
 ·simpa [Addr.add,h0] using b
theorem Yn {B n cap:Nat} {w:World} {b:Option Addr} {bs:List UInt8} (h:zf B w (.slice b n cap) bs) (m:Nat) (hm:m≤bs.length):zf B w (.slice b m cap) (bs.take m):=by
 have q:(bs.take m).length=m:=by rw [List.length_take];omega
 refine ⟨by rw [Lib.byteCells_length,Nat.mul_one],?_⟩
 rw [q];rcases h.2 with ⟨o,x⟩ | ⟨g,u,c,o,x,y,E,z,D,A⟩
 ·simp only [Value.slice.injEq] at o
  obtain ⟨rfl,rfl,rfl⟩:=o
  left
  have:m=0:=by omega
  subst this;exact ⟨rfl,rfl⟩
 ·simp only [Value.slice.injEq] at o
  obtain ⟨rfl,rfl,rfl⟩:=o;refine .inr ⟨g,cap,c,rfl,x,y,by omega,z,D,?_⟩
  have e:c.toList.take (m*1)=(c.toList.take (bs.length*1)).take (m*1):=by rw [List.take_take,Nat.min_eq_left (by omega)]
  rw [e,A]
  unfold Lib.byteCells
  rw [List.map_take,Nat.mul_one]
theorem xR {S:Nat→Prop} {most:Nat} {os:List Ob} {h:Nat} {vo vc:Value} (v:Vl) (w:World) (H:zA S w most os h vo vc) (hv:zw v) (ht:zQ w) :
  Calls Tryz.prog 37 #[.pointer (some ⟨h,0,none⟩),V5 v] w fun e w'=>e=.returned (.string (za (Ze os v)))∧Below w.heap.size w w':=by
 have ar:=H.lt;obtain ⟨w1,y⟩:∃w1,w1=w.alloc (.cells #[.int .i64 v.k,.int .i64 v.n,.string (za v.s)] 56):=⟨_,rfl⟩;have ay:w1.heap.size=w.heap.size+1:=by rw [y];simp
 have A:Below w.heap.size w w1:=by rw [y];exact (Below.refl _ _).alloc (Nat.le_refl _) _
 have D:w1.heap[w.heap.size]?=some (.cells #[.int .i64 v.k,.int .i64 v.n,.string (za v.s)] 56 (0,0)):=by rw [y];exact World.alloc_heap_new _ _
 obtain ⟨p0,p1,p2,-⟩:=zv D;have X:=H.below A
 have HC:Hid (∀wx,Below w1.heap.size w1 wx→Calls Tryz.prog 47 #[.pointer (some ⟨h,0,none⟩)] wx fun e w''=>e=.returned (.bool true)∧Below w1.heap.size w1 w''):=fun wx hx =>
  (yM wx (X.below hx)).mono fun e w'' ⟨he,K⟩=>⟨he,K ▸ hx⟩
 have M:Hid (∀wx,Below w1.heap.size w1 wx→Calls Tryz.prog 15 #[V5 v,.int .i64 (os.length:Int)] wx fun e w''=>e=.returned (.int .i64 (zG (zb v os.length)))∧Below w1.heap.size w1 w''):=fun wx hx =>
  (YU v os.length wx hv ((ht.below A (Nat.le_refl _)).below hx (Nat.le_refl _))).mono fun e w'' ⟨he,K⟩=>⟨he,hx.trans (K.mono hx.size)⟩
 obtain ⟨-,-,c2,-,-⟩:=Yg X.blk;obtain ⟨ob,oc,an,aq,av⟩:=ym X.objs;subst an;have x0:=zZ (n:=w1.heap.size) p0 (by simp only;omega)
 have x1:=zZ (n:=w1.heap.size) p1 (by simp only;omega)
 have x2:=zZ (n:=w1.heap.size) p2 (by simp only;omega)
 have x3:=zZ (n:=w1.heap.size) c2 (by simp only;omega)
 have R:Hid (Below w.heap.size w w1):=A;have HH:Hid (zA S w most os h (.slice ob os.length oc) vc):=H;have HT:Hid (zQ w):=ht;have HV:Hid (zw v):=hv;have aw:Hid (w1.heap[w.heap.size]?=some (.cells #[.int .i64 v.k,.int .i64 v.n,.string (za v.s)] 56 (0,0))):=D;have E:=y.symm;have x:Hid (Ze os v=if zb v os.length=true then (if 200<(zH os 2 v).length then (zH os 2 v).take 197++zS else zH os 2 v) else []):=rfl
 have ag:Hid ((zH os 2 v).length≤z8 2):=yp (fun o ho=>(H.ok o ho).2) 2 v hv
 obtain ⟨SB,G⟩:∃SB,SB=Ze os v:=⟨_,rfl⟩;rw [←G] at x ⊢;cases hr:zb v os.length with
 | false =>
  rw [hr] at M x;rw [show zG false=2 from rfl] at M
  obtain ⟨k,m,s⟩:=v;simp only at p0 p1 p2 x0 x1 x2 E;clear y D H X ht A hr G hv
  go_enter Tryz.func37,Tryz.ntmps37
  go_wp2_with fail
  refine Zx (n:=w1.heap.size) (w0:=w1) (Below.refl _ _) (by kernel_rfl) (by kernel_rfl) ?_
  go_big_quiet_step (fail)
  go_big_quiet_step (exact ZD HC.out _)
  iterate 8 (go_big_quiet_step (fail))
  go_big_quiet_step (exact ZD M.out _)
  iterate 2 (go_big_quiet_step (fail))
  refine wpQuiet_nil ?_;rintro _ ⟨c,rfl⟩;have ap:Hid (Below w.heap.size w c.1):=R.out.trans (c.2.mono (by omega))
  clear x0 x1 x2 x3;go_wp2
  go_ret
  rw [x.out];exact ⟨rfl,ap.out⟩
 | true =>
  rw [hr] at M x;rw [show zG true=0 from rfl] at M
  have ak:Hid (zb v os.length=true):=hr
  have ae:∀W,Below w1.heap.size w1 W→∀W1,W1=W.alloc (.cells #[.int .i64 v.k,.int .i64 v.n,.string (za v.s)] 56)→Calls Tryz.prog 48 #[.pointer (some ⟨h,0,none⟩),.slice none 0 0,.int .i64 2,.slice (some ⟨W.heap.size,0,none⟩) 1 1] W1 fun e w'=>∃v',e=.returned v'∧Hid (zf W1.heap.size w' v' (zH os 2 v))∧Hid (Below w.heap.size w w')∧W1.heap.size≤w'.heap.size∧w.heap.size≤W1.heap.size:=fun W hW W1 hW1=>by
   have az:W1.heap.size=W.heap.size+1:=by rw [hW1];simp
   have ax:=hW.size;have I:Below w.heap.size w W1:=by rw [hW1];exact (R.out.trans (hW.mono (by omega))).alloc (by omega) _
   have ai:xM W1.heap.size W1 most os h (.slice ob os.length oc) vc:=⟨(HH.out.below I).wide fun k hk _=>hk,Nat.le_refl _,fun W' hW'=>(HT.out.below I (Nat.le_refl _)).below hW' (Nat.le_refl _)⟩
   have c:=xQ W1.heap.size W1 most os h _ _ ai [v] (.slice (some ⟨W.heap.size,0,none⟩) 1 1) [] (.slice none 0 0) (by rw [hW1];exact Xu W v _ (by simp)) (fun u hu=>by rw [List.mem_singleton] at hu;subst hu;exact ⟨ak.out,HV.out⟩) (by simp) (World.ownsRow_nil _ _ _ _) (by simp [z8])
   refine c.mono ?_;rintro e w' ⟨v',rfl,ho,K⟩;refine ⟨v',rfl,?_,I.trans (K.mono (by omega)),K.size,by omega⟩
   show zf _ _ _ _
   simpa [zg] using ho
  obtain ⟨k,m,s⟩:=v;simp only at p0 p1 p2 x0 x1 x2 E;clear y D H X ht A hr G hv
  go_enter Tryz.func37,Tryz.ntmps37
  go_wp2_with fail
  refine Zx (n:=w1.heap.size) (w0:=w1) (Below.refl _ _) (by kernel_rfl) (by kernel_rfl) ?_
  go_big_quiet_step (fail)
  go_big_quiet_step (exact ZD HC.out _)
  iterate 8 (go_big_quiet_step (fail))
  go_big_quiet_step (exact ZD M.out _)
  iterate 2 (go_big_quiet_step (fail))
  refine wpQuiet_nil ?_;rintro _ ⟨c,rfl⟩;have y0:=x0 c;have y1:=x1 c;have y2:=x2 c;have cw:=ae c.1 c.2 _ rfl;clear x0 x1 x2 x3 ae;go_wp2_with fail
  refine cw.mono ?_;clear cw;rintro e w4 ⟨v4,rfl,F,ad,aB,aA⟩;obtain ⟨J,b,al,B,ah,aj,aC⟩:=Zs F.out.own;subst al;obtain ⟨T,hT⟩:∃T,T=zH os 2 ⟨k,m,s⟩:=⟨_,rfl⟩;have V:=ag.out;have Y:z8 2=333000000:=rfl;rw [Y] at V;rw [←hT] at F B ah V x ⊢;clear hT Y ag y0 y1 y2
  unfold maxLen at aj
  by_cases h2:200<T.length
  ·have am:(200:Int)<(T.length:Int):=by omega
   have Z:Hid (zf (c.1.alloc (.cells #[.int .i64 k,.int .i64 m,.string (za s)] 56)).heap.size w4 (.slice J 197 b) (T.take 197)):=Yn F.out 197 (by omega)
   have au:∀W:World,(Instr.slice 44 (.slice J T.length b) none (some (.int .i64 197)) none).run Tryz.prog W=.ok (.slice J 197 b) W:=fun W=>by
    rw [run_slice_h (P:=Tryz.prog) (w:=W) 44 J T.length b Tryz.underlying44 .i64 197 (by omega) (by omega)]
    cases J <;> simp [sliced,go_sem,Addr.add]
   have aa:(T.take 197).length=197:=by rw [List.length_take];omega
   go_wp2_with (at_builtin;refine ze rfl _ _ rfl (c.1.alloc (.cells #[.int .i64 k,.int .i64 m,.string (za s)] 56)).heap.size _ (T.take 197) rfl Z.out.own zS rfl (by rw [aa];simp [zS]) (by omega) ?_;intro v5 w5 U ab;obtain ⟨b5,O,rfl,z,-,-,-⟩:=Zs U;have af:=ZC w5 b5 _ O z;rw [show (T.take 197++zS).length=200 by rw [List.length_append,aa];rfl] at af ⊢)
   have ao:Hid (Below w.heap.size w w5):=ad.out.grown ab (by omega) (fun q hq=>by have:=Z.out.lt q hq;omega)
   clear z U ab;go_ret
   rw [x.out,if_pos h2];exact ⟨rfl,ao.out⟩
  ·have am:¬ (200:Int)<(T.length:Int):=by omega
   have af:=ZC w4 J _ b B;go_wp2
   go_ret
   rw [x.out,if_neg h2];exact ⟨rfl,ad.out⟩
end Go.Proofs.YtbjndgachcdbcaaGreatDoor
