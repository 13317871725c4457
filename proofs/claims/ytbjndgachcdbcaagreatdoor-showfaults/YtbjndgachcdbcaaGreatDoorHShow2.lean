import Derived.Test.YtbjndgachcdbcaaGreatDoorHWrite3
namespace Go.Proofs.YtbjndgachcdbcaaGreatDoor
open Go.RowKit Go.Shelf
set_option maxHeartbeats 16000000
set_option maxRecDepth 100000
theorem xC:yV 2:=Ya 2 (vz 1 (by omega) (Ya 1 (vz 0 (by omega) (Ya 0 Xb))))
theorem Xd (w:World) (v:Vl) (B:Nat) (hB:w.heap.size<B):zC (fun k=>k<B) (w.alloc (.cells #[.int .i64 v.k,.int .i64 v.n,.string (za v.s)] 56)) (.slice (some ⟨w.heap.size,0,none⟩) 1 1) [v]:=by
 refine ⟨_,1,rfl,by simp,by unfold maxLen;omega,.inr ⟨w.heap.size,0,rfl,hB,by simp,fun j u hj=>?_⟩⟩
 have b:=XN w [.int .i64 v.k,.int .i64 v.n,.string (za v.s)] 56 j u (by rw [v7] at hj;exact hj)
 by_cases h0:j=0
 ·subst h0;simpa [Addr.add] using b
 ·simpa [Addr.add,h0] using b
theorem Yb {B n cap:Nat} {w:World} {b:Option Addr} {bs:List UInt8} (h:zf B w (.slice b n cap) bs) (m:Nat) (hm:m≤bs.length):zf B w (.slice b m cap) (bs.take m):=by
 have o:(bs.take m).length=m:=by rw [List.length_take];omega
 refine ⟨by rw [Lib.byteCells_length,Nat.mul_one],?_⟩
 rw [o];rcases h.2 with ⟨q,x⟩ | ⟨g,u,c,q,x,z,E,A,y,D⟩
 ·simp only [Value.slice.injEq] at q
  obtain ⟨rfl,rfl,rfl⟩:=q
  left
  have:m=0:=by omega
  subst this;exact ⟨rfl,rfl⟩
 ·simp only [Value.slice.injEq] at q
  obtain ⟨rfl,rfl,rfl⟩:=q;refine .inr ⟨g,cap,c,rfl,x,z,by omega,A,y,?_⟩
  have e:c.toList.take (m*1)=(c.toList.take (bs.length*1)).take (m*1):=by rw [List.take_take,Nat.min_eq_left (by omega)]
  rw [e,D]
  unfold Lib.byteCells
  rw [List.map_take,Nat.mul_one]
theorem xD {S:Nat→Prop} {most:Nat} {os:List Ob} {h:Nat} {vo vc:Value} (v:Vl) (w:World) (H:zA S w most os h vo vc) (hv:zv v) (ht:zQ w) :
  Calls Tryz.prog 37 #[.pointer (some ⟨h,0,none⟩),VG v] w fun e w'=>e=.returned (.string (za (Zd os v)))∧Below w.heap.size w w':=by
 have aq:=H.lt;obtain ⟨w1,y⟩:∃w1,w1=w.alloc (.cells #[.int .i64 v.k,.int .i64 v.n,.string (za v.s)] 56):=⟨_,rfl⟩;have ay:w1.heap.size=w.heap.size+1:=by rw [y];simp
 have B:Below w.heap.size w w1:=by rw [y];exact (Below.refl _ _).alloc (Nat.le_refl _) _
 have D:w1.heap[w.heap.size]?=some (.cells #[.int .i64 v.k,.int .i64 v.n,.string (za v.s)] 56 (0,0)):=by rw [y];exact World.alloc_heap_new _ _
 obtain ⟨p0,p1,p2,-⟩:=zu D;have H1:=H.below B
 have HC:Hid (∀wx,Below w1.heap.size w1 wx→Calls Tryz.prog 47 #[.pointer (some ⟨h,0,none⟩)] wx fun e w''=>e=.returned (.bool true)∧Below w1.heap.size w1 w''):=fun wx hx =>
  (yH wx (H1.below hx)).mono fun e w'' ⟨he,M⟩=>⟨he,M ▸ hx⟩
 have K:Hid (∀wx,Below w1.heap.size w1 wx→Calls Tryz.prog 15 #[VG v,.int .i64 (os.length:Int)] wx fun e w''=>e=.returned (.int .i64 (zH (zb v os.length)))∧Below w1.heap.size w1 w''):=fun wx hx =>
  (YK v os.length wx hv ((ht.below B (Nat.le_refl _)).below hx (Nat.le_refl _))).mono fun e w'' ⟨he,M⟩=>⟨he,hx.trans (M.mono hx.size)⟩
 obtain ⟨-,-,c2,-,-⟩:=y3 H1.blk;obtain ⟨ob,oc,ao,aA,ap⟩:=yi H1.objs;subst ao;have x0:=zZ (n:=w1.heap.size) p0 (by simp only;omega)
 have x1:=zZ (n:=w1.heap.size) p1 (by simp only;omega)
 have x2:=zZ (n:=w1.heap.size) p2 (by simp only;omega)
 have x3:=zZ (n:=w1.heap.size) c2 (by simp only;omega)
 have af:Hid (Below w.heap.size w w1):=B;have HH:Hid (zA S w most os h (.slice ob os.length oc) vc):=H;have HT:Hid (zQ w):=ht;have HV:Hid (zv v):=hv;have aB:Hid (w1.heap[w.heap.size]?=some (.cells #[.int .i64 v.k,.int .i64 v.n,.string (za v.s)] 56 (0,0))):=D;have E:=y.symm;have x:Hid (Zd os v=if zb v os.length=true then (if 200<(zI os 2 v).length then (zI os 2 v).take 197++zS else zI os 2 v) else []):=rfl
 have ad:Hid ((zI os 2 v).length≤z7 2):=ym (fun o ho=>(H.ok o ho).2) 2 v hv
 obtain ⟨SB,F⟩:∃SB,SB=Zd os v:=⟨_,rfl⟩;rw [←F] at x ⊢;cases hr:zb v os.length with
 | false =>
  rw [hr] at K x;rw [show zH false=2 from rfl] at K
  obtain ⟨k,m,s⟩:=v;simp only at p0 p1 p2 x0 x1 x2 E;clear y D H H1 ht B hr F hv
  go_enter Tryz.func37,Tryz.ntmps37
  go_wp2_with fail
  refine Zv (n:=w1.heap.size) (w0:=w1) (Below.refl _ _) (by kernel_rfl) (by kernel_rfl) ?_
  go_big_quiet_step (fail)
  go_big_quiet_step (exact ZB HC.out _)
  iterate 8 (go_big_quiet_step (fail))
  go_big_quiet_step (exact ZB K.out _)
  iterate 2 (go_big_quiet_step (fail))
  refine wpQuiet_nil ?_;rintro _ ⟨c,rfl⟩;have ak:Hid (Below w.heap.size w c.1):=af.out.trans (c.2.mono (by omega))
  clear x0 x1 x2 x3;go_wp2
  go_ret
  rw [x.out];exact ⟨rfl,ak.out⟩
 | true =>
  rw [hr] at K x;rw [show zH true=0 from rfl] at K
  have ag:Hid (zb v os.length=true):=hr
  have U:∀W,Below w1.heap.size w1 W→∀W1,W1=W.alloc (.cells #[.int .i64 v.k,.int .i64 v.n,.string (za v.s)] 56)→Calls Tryz.prog 48 #[.pointer (some ⟨h,0,none⟩),.slice none 0 0,.int .i64 2,.slice (some ⟨W.heap.size,0,none⟩) 1 1] W1 fun e w'=>∃v',e=.returned v'∧Hid (zf W1.heap.size w' v' (zI os 2 v))∧Hid (Below w.heap.size w w')∧W1.heap.size≤w'.heap.size∧w.heap.size≤W1.heap.size:=fun W hW W1 hW1=>by
   have ax:W1.heap.size=W.heap.size+1:=by rw [hW1];simp
   have av:=hW.size;have G:Below w.heap.size w W1:=by rw [hW1];exact (af.out.trans (hW.mono (by omega))).alloc (by omega) _
   have ai:xy W1.heap.size W1 most os h (.slice ob os.length oc) vc:=⟨(HH.out.below G).wide fun k hk _=>hk,Nat.le_refl _,fun W' hW'=>(HT.out.below G (Nat.le_refl _)).below hW' (Nat.le_refl _)⟩
   have c:=xC W1.heap.size W1 most os h _ _ ai [v] (.slice (some ⟨W.heap.size,0,none⟩) 1 1) [] (.slice none 0 0) (by rw [hW1];exact Xd W v _ (by simp)) (fun u hu=>by rw [List.mem_singleton] at hu;subst hu;exact ⟨ag.out,HV.out⟩) (by simp) (World.ownsRow_nil _ _ _ _) (by simp [z7])
   refine c.mono ?_;rintro e w' ⟨v',rfl,ho,M⟩;refine ⟨v',rfl,?_,G.trans (M.mono (by omega)),M.size,by omega⟩
   show zf _ _ _ _
   simpa [zg] using ho
  obtain ⟨k,m,s⟩:=v;simp only at p0 p1 p2 x0 x1 x2 E;clear y D H H1 ht B hr F hv
  go_enter Tryz.func37,Tryz.ntmps37
  go_wp2_with fail
  refine Zv (n:=w1.heap.size) (w0:=w1) (Below.refl _ _) (by kernel_rfl) (by kernel_rfl) ?_
  go_big_quiet_step (fail)
  go_big_quiet_step (exact ZB HC.out _)
  iterate 8 (go_big_quiet_step (fail))
  go_big_quiet_step (exact ZB K.out _)
  iterate 2 (go_big_quiet_step (fail))
  refine wpQuiet_nil ?_;rintro _ ⟨c,rfl⟩;have y0:=x0 c;have y1:=x1 c;have y2:=x2 c;have cw:=U c.1 c.2 _ rfl;clear x0 x1 x2 x3 U;go_wp2_with fail
  refine cw.mono ?_;clear cw;rintro e w4 ⟨v4,rfl,I,ab,aw,az⟩;obtain ⟨J,b,al,A,am,an,au⟩:=Zq I.out.own;subst al;obtain ⟨T,hT⟩:∃T,T=zI os 2 ⟨k,m,s⟩:=⟨_,rfl⟩;have R:=ad.out;have ae:z7 2=333000000:=rfl;rw [ae] at R;rw [←hT] at I A am R x ⊢;clear hT ae ad y0 y1 y2
  unfold maxLen at an
  by_cases h2:200<T.length
  ·have ah:(200:Int)<(T.length:Int):=by omega
   have X:Hid (zf (c.1.alloc (.cells #[.int .i64 k,.int .i64 m,.string (za s)] 56)).heap.size w4 (.slice J 197 b) (T.take 197)):=Yb I.out 197 (by omega)
   have ar:∀W:World,(Instr.slice 44 (.slice J T.length b) none (some (.int .i64 197)) none).run Tryz.prog W=.ok (.slice J 197 b) W:=fun W=>by
    rw [run_slice_h (P:=Tryz.prog) (w:=W) 44 J T.length b Tryz.underlying44 .i64 197 (by omega) (by omega)]
    cases J <;> simp [sliced,go_sem,Addr.add]
   have O:(T.take 197).length=197:=by rw [List.length_take];omega
   go_wp2_with (at_builtin;refine ze rfl _ _ rfl (c.1.alloc (.cells #[.int .i64 k,.int .i64 m,.string (za s)] 56)).heap.size _ (T.take 197) rfl X.out.own zS rfl (by rw [O];simp [zS]) (by omega) ?_;intro v5 w5 Z V;obtain ⟨b5,Y,rfl,z,-,-,-⟩:=Zq Z;have aa:=ZA w5 b5 _ Y z;rw [show (T.take 197++zS).length=200 by rw [List.length_append,O];rfl] at aa ⊢)
   have aj:Hid (Below w.heap.size w w5):=ab.out.grown V (by omega) (fun q hq=>by have:=X.out.lt q hq;omega)
   clear z Z V;go_ret
   rw [x.out,if_pos h2];exact ⟨rfl,aj.out⟩
  ·have ah:¬ (200:Int)<(T.length:Int):=by omega
   have aa:=ZA w4 J _ b A;go_wp2
   go_ret
   rw [x.out,if_neg h2];exact ⟨rfl,ab.out⟩
end Go.Proofs.YtbjndgachcdbcaaGreatDoor
