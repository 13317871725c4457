import Derived.Test.YtbjndgachcdbcaaGreatDoorVPlace
import Derived.Deep.DeepCutAuto
import Derived.Deep.CutBlock
namespace Go.Proofs.YtbjndgachcdbcaaGreatDoor
open Go.RowKit Go.Shelf
set_option maxHeartbeats 16000000
set_option maxRecDepth 100000
theorem xe (x:Sp) (w:World) (hx:Y5 x) (ht:yW w) :
  Calls Tryz.prog 29 #[V0 x] w fun e w'=>e=.returned (.string (za (Za x)))∧Below w.heap.size w w':=by
 have ab:Hid (Za x=zB (xH x).flatten):=rfl;have T:Hid (xH x=[[35],Lib.itoa x.id]++(if x.watch≠[] then [[32,119,97,116,99,104,32],x.watch] else if x.cond≠[] then [[32,108,105,110,101,32],Lib.itoa x.line,[32,105,102,32],x.cond] else [[32,108,105,110,101,32],Lib.itoa x.line])++(if x.off then [[32,111,102,102]] else [])):=rfl
 obtain ⟨L,hL⟩:∃L,L=xH x:=⟨_,rfl⟩;obtain ⟨R,hR⟩:∃R,R=Za x:=⟨_,rfl⟩;rw [←hL] at ab T;rw [←hR] at ab ⊢;have ah:=ZJ x.id hx.id.1 hx.id.2;have aq:=ZJ x.line hx.line.1 hx.line.2;have hc:=hx.cond;have au:=hx.watch;have aa:=hx.id;have X:=hx.line;obtain ⟨id,line,o,m,u⟩:=x;simp only at T ah aq hc au aa X
 have ay:Hid (L.flatten.length≤70368744177664):=by
  show _≤_
  rw [T.out]
  repeat' split
  all_goals (simp;omega)
 obtain ⟨I,hI⟩:∃I,I=Lib.itoa id:=⟨_,rfl⟩;obtain ⟨J,hJ⟩:∃J,J=Lib.itoa line:=⟨_,rfl⟩;rw [←hI,←hJ] at T
 have az:Hid (∀W,Below w.heap.size w W→Calls Tryz.prog 38 #[.int .i64 id] W fun e w'=>e=.returned (.string (za I))∧Below W.heap.size W w'):=fun W hW=>by
  rw [hI];exact YS id aa W (ht.below hW (Nat.le_refl _)).tabs
 have ai:Hid (∀W,Below w.heap.size w W→Calls Tryz.prog 38 #[.int .i64 line] W fun e w'=>e=.returned (.string (za J))∧Below W.heap.size W w'):=fun W hW=>by
  rw [hJ];exact YS line X W (ht.below hW (Nat.le_refl _)).tabs
 obtain ⟨V,H⟩:∃V,V=[[35],I]++(if m≠[] then [[32,119,97,116,99,104,32],m] else if o≠[] then [[32,108,105,110,101,32],J,[32,105,102,32],o] else [[32,108,105,110,101,32],J]):=⟨_,rfl⟩
 rw [←H] at T;have A:Hid (V=[[35],I]++(if m≠[] then [[32,119,97,116,99,104,32],m] else if o≠[] then [[32,108,105,110,101,32],J,[32,105,102,32],o] else [[32,108,105,110,101,32],J])):=H
 have aB:V.length≤6:=by
  rw [H]
  split
  ·simp
  ·split <;> simp
 have aA:L.length≤7:=by
  rw [T.out,List.length_append]
  split <;> simp <;> omega
 obtain ⟨w1,aj,Y,B,h0⟩:=yl w (.cells #[.int .i64 id,.int .i64 line,.string (za o),.string (za m),.bool u] 82);have ax:Hid (w1=w.alloc (.cells #[.int .i64 id,.int .i64 line,.string (za o),.string (za m),.bool u] 82)):=aj;have Z:Hid (w1.heap[w.heap.size]?=some (.cells #[.int .i64 id,.int .i64 line,.string (za o),.string (za m),.bool u] 82 (0,0))):=h0;have ae:Hid (Below w.heap.size w w1):=Y;have HT:Hid (yW w):=ht;have c1:=az.out w1 Y;obtain ⟨p0,p1,p2,p3,p4⟩:=zU h0;clear hL hR ah aq aa X hI hJ H hx ht aj Y h0 B
 go_enter Tryz.func29,Tryz.ntmps29
 go_wp2_with fail
 rw [←ax.out];refine c1.mono ?_;clear c1;rintro e w2 ⟨rfl,F⟩
 have q:Hid (yL w (w2.alloc (.cells #[.string ⟨#[35]⟩,.string (za I)] 9)) w.heap.size #[.int .i64 id,.int .i64 line,.string (za o),.string (za m),.bool u] 82 (.slice (some ⟨w2.heap.size,0,none⟩) 2 2) [[35],I]) :=
  ⟨zj.lit w.heap.size w w2 [[35],I] (ae.out.trans (F.mono ae.out.size)) (Nat.le_trans ae.out.size F.size) (by simp [maxLen]),(Below.heap_alloc _ _ _ (Nat.lt_of_lt_of_le (zc Z.out) F.size)).trans ((F.block _ (zc Z.out)).trans Z.out),HT.out⟩
 clear p0 p1 p2 p3 p4 F;obtain ⟨p0,p1,p2,p3,p4⟩:=zU q.out.blk
 go_upto_block 0 with fail
 generalize w2.alloc (.cells #[.string ⟨#[35]⟩,.string (za I)] 9)=w3 at q p0 p1 p2 p3 p4 ⊢
 go_cut [3] (fun t wx=>yL w wx w.heap.size #[.int .i64 id,.int .i64 line,.string (za o),.string (za m),.bool u] 82 t V)
 case first =>
  by_cases e0:m=[]
  ·subst e0
   rw [if_neg (by simp)] at A
   by_cases e1:o=[]
   ·subst e1
    rw [if_neg (by simp)] at A
    have c:=ai.out w3 q.out.strs.below;go_wp2_with fail
    refine c.mono ?_;clear c p0 p1 p2 p3 p4;rintro e w4 ⟨rfl,hb⟩;have ak:Hid _:=q.out.new hb;clear hb
    go_wp2_with (at_builtin;refine z8 rfl _ _ rfl w.heap.size _ [[35],I] [[32,108,105,110,101,32],J] rfl w4 w ak.out.strs rfl rfl (by simp) ?_;intro v5 w5 y z;have E:Hid _:=ak.out.app (by decide) y z;clear y z)
    go_meet
    rw [A.out];exact E.out
   ·obtain ⟨D,G,rfl⟩:=List.exists_cons_of_ne_nil e1
    rw [if_pos e1] at A
    go_upto_region 6 with fail
    have M:Hid (∀W,Below w3.heap.size w3 W→W.cell? ⟨w.heap.size,1,none⟩=some (.int .i64 line)∧W.cell? ⟨w.heap.size,2,none⟩=some (.string (za (D::G)))):=fun W hW=>by
     obtain ⟨-,a,b,-,-⟩:=zU ((hW.block _ (zc q.out.blk)).trans q.out.blk);exact ⟨a,b⟩
    have x0:∀c:zD fun W=>W.cell? ⟨w.heap.size,1,none⟩=some (.int .i64 line)∧W.cell? ⟨w.heap.size,2,none⟩=some (.string (za (D::G))),c.1.cell? ⟨w.heap.size,1,none⟩=some (.int .i64 line):=fun c=>c.2.1
    have x1:∀c:zD fun W=>W.cell? ⟨w.heap.size,1,none⟩=some (.int .i64 line)∧W.cell? ⟨w.heap.size,2,none⟩=some (.string (za (D::G))),c.1.cell? ⟨w.heap.size,2,none⟩=some (.string (za (D::G))):=fun c=>c.2.2
    haveI aC:Nonempty (zD fun W=>W.cell? ⟨w.heap.size,1,none⟩=some (.int .i64 line)∧W.cell? ⟨w.heap.size,2,none⟩=some (.string (za (D::G)))):=⟨⟨w3,M.out w3 (Below.refl _ _)⟩⟩
    have O:Hid (Below w3.heap.size w3 w3.drew):=(Below.refl _ _).drew;have ad:=q.out.strs.low;refine ZY (n:=9) (S:=fun w'=>∃c:zD fun W=>W.cell? ⟨w.heap.size,1,none⟩=some (.int .i64 line)∧W.cell? ⟨w.heap.size,2,none⟩=some (.string (za (D::G))),w'=c.1) (by kernel_rfl) rfl rfl ?_
    refine Zt (fuel:=4) (fuel':=9) (idx:=[0,1,2,4,5]) (by kernel_rfl) rfl rfl rfl (fun _ _ _ _ _ h=>h) ⟨⟨w3.drew,M.out _ O.out⟩,rfl⟩ ?_
    show wpQuiet _ _ _ _ [_,_,_,_,_] _
    iterate 5 (go_big_quiet_step (fail))
    refine wpQuiet_nil ?_;refine zR (fuel:=3) (fuel':=4) (i:=3) rfl (by kernel_rfl) rfl rfl (by rfl) ?_
    intro K U;go_simp;refine (ai.out w3.drew (q.out.strs.below.trans (O.out.mono ad))).mono ?_;rintro e z1 ⟨rfl,hb⟩;have B:Hid (Below w3.heap.size w3 z1):=O.out.trans (hb.mono O.out.size);clear hb
    (try go_simp)
    refine U.out _ _ ⟨⟨z1,M.out z1 B.out⟩,rfl⟩ ?_;clear U K;refine zR (fuel:=2) (fuel':=3) (i:=6) rfl (by kernel_rfl) rfl rfl (by rfl) ?_
    intro K U;go_simp;have ar:Hid (Below w3.heap.size w3 (z1.alloc (.cells #[.string ⟨#[32,108,105,110,101,32]⟩,.string (za J),.string ⟨#[32,105,102,32]⟩,.string (za (D::G))] 9))):=B.out.alloc B.out.size _;refine U.out _ _ ⟨⟨_,M.out _ ar.out⟩,rfl⟩ ?_;clear U K;have ag:Hid _:=q.out.new B.out;refine Y2 (fuel:=1) (fuel':=2) (i:=7) rfl (by kernel_rfl) rfl rfl (by rfl) ?_
    intro K U;refine zY (.tmp 27) (.tmp 33) rfl (by rfl) w.heap.size _ [[35],I] [[32,108,105,110,101,32],J,[32,105,102,32],D::G] rfl z1 w ag.out.strs rfl rfl (by simp) ?_
    intro v9 z3 am ao;have an:Hid _:=ag.out.app (by decide) am ao
    have al:Hid (z3.cell? ⟨w.heap.size,1,none⟩=some (.int .i64 line)∧z3.cell? ⟨w.heap.size,2,none⟩=some (.string (za (D::G)))):=by
     obtain ⟨-,a,b,-,-⟩:=zU an.out.blk;exact ⟨a,b⟩
    refine U.out _ _ ⟨⟨z3,al.out⟩,rfl⟩ ?_;clear U K am ao
    (try simp only [Act.put,List.setIfInBounds_toArray,List.set_cons_zero,List.set_cons_succ])
    refine Zt (fuel:=0) (fuel':=1) (idx:=[8]) (by kernel_rfl) rfl rfl rfl (fun _ _ _ _ _ h=>h) ⟨⟨z3,al.out⟩,rfl⟩ ?_
    show wpQuiet _ _ _ _ [_] _
    iterate 1 (go_big_quiet_step (fail))
    refine wpQuiet_nil ?_;refine yk (by kernel_rfl) ?_
    clear x0 x1;go_wp2_with fail
    go_meet
    rw [A.out];exact an.out
  ·obtain ⟨D,G,rfl⟩:=List.exists_cons_of_ne_nil e0
   rw [if_pos e0] at A
   go_wp2_with (at_builtin;refine z8 rfl _ _ rfl w.heap.size _ [[35],I] [[32,119,97,116,99,104,32],D::G] rfl w3 w q.out.strs rfl rfl (by simp) ?_;intro v5 w5 y z;have E:Hid _:=q.out.app (by decide) y z;clear y z)
   go_meet
   rw [A.out];exact E.out
 case rest =>
  have af:Hid (yL w wc w.heap.size #[.int .i64 id,.int .i64 line,.string (za o),.string (za m),.bool u] 82 u3 V):=hcut;obtain ⟨r0,r1,r2,r3,r4⟩:=zU hcut.blk;clear hcut p0 p1 p2 p3 p4
  go_upto_if 36 with fail
  go_cut [3] (fun t wx=>yL w wx w.heap.size #[.int .i64 id,.int .i64 line,.string (za o),.string (za m),.bool u] 82 t L)
  case first =>
   cases u with
   | false =>
    go_wp2_with fail
    go_meet
    rw [T.out,if_neg (by simp),List.append_nil]
    exact af.out
   | true =>
    go_wp2_with (at_builtin;refine z8 rfl _ _ rfl w.heap.size _ V [[32,111,102,102]] rfl wc w af.out.strs rfl rfl (by simp;omega) ?_;intro v5 w5 y z;have E:Hid _:=af.out.app (by decide) y z;clear y z)
    go_meet
    rw [T.out,if_pos trivial];exact E.out
  case rest =>
   have aw:Hid (yL w wc w.heap.size #[.int .i64 id,.int .i64 line,.string (za o),.string (za m),.bool u] 82 u3 L):=hcut;have cl:=Yj aw.out.strs (by omega) ay.out
   rw [←ab.out] at cl;clear hcut r0 r1 r2 r3 r4;go_wp2_with fail
   refine cl.mono ?_;clear cl;rintro e w9 ⟨rfl,ap⟩;have av:Hid (Below w.heap.size w w9):=ap;clear ap;go_wp2
   go_ret
   exact ⟨rfl,av.out⟩
end Go.Proofs.YtbjndgachcdbcaaGreatDoor
