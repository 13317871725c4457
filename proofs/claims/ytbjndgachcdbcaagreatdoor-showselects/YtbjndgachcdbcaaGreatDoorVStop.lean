import Derived.Test.YtbjndgachcdbcaaGreatDoorVPlace
import Derived.Deep.DeepCutAuto
import Derived.Deep.CutBlock
namespace Go.Proofs.YtbjndgachcdbcaaGreatDoor
open Go.RowKit Go.Shelf
set_option maxHeartbeats 16000000
set_option maxRecDepth 100000
theorem xN (x:Sp) (w:World) (hx:YA x) (ht:YB w) :
  Calls Tryz.prog 29 #[Ux x] w fun e w'=>e=.returned (.string (za (Zh x)))∧Below w.heap.size w w':=by
 have af:Hid (Zh x=zA (Xr x).flatten):=rfl;have T:Hid (Xr x=[[35],Lib.itoa x.id]++(if x.watch≠[] then [[32,119,97,116,99,104,32],x.watch] else if x.cond≠[] then [[32,108,105,110,101,32],Lib.itoa x.line,[32,105,102,32],x.cond] else [[32,108,105,110,101,32],Lib.itoa x.line])++(if x.off then [[32,111,102,102]] else [])):=rfl
 obtain ⟨L,hL⟩:∃L,L=Xr x:=⟨_,rfl⟩;obtain ⟨R,hR⟩:∃R,R=Zh x:=⟨_,rfl⟩;rw [←hL] at af T;rw [←hR] at af ⊢;have ap:=ZR x.id hx.id.1 hx.id.2;have ai:=ZR x.line hx.line.1 hx.line.2;have hc:=hx.cond;have ay:=hx.watch;have ad:=hx.id;have X:=hx.line;obtain ⟨id,line,o,m,u⟩:=x;simp only at T ap ai hc ay ad X
 have au:Hid (L.flatten.length≤70368744177664):=by
  show _≤_
  rw [T.out]
  repeat' split
  all_goals (simp;omega)
 obtain ⟨I,hI⟩:∃I,I=Lib.itoa id:=⟨_,rfl⟩;obtain ⟨J,hJ⟩:∃J,J=Lib.itoa line:=⟨_,rfl⟩;rw [←hI,←hJ] at T
 have aw:Hid (∀W,Below w.heap.size w W→Calls Tryz.prog 38 #[.int .i64 id] W fun e w'=>e=.returned (.string (za I))∧Below W.heap.size W w'):=fun W hW=>by
  rw [hI];exact xl id ad W (ht.below hW (Nat.le_refl _)).tabs
 have ag:Hid (∀W,Below w.heap.size w W→Calls Tryz.prog 38 #[.int .i64 line] W fun e w'=>e=.returned (.string (za J))∧Below W.heap.size W w'):=fun W hW=>by
  rw [hJ];exact xl line X W (ht.below hW (Nat.le_refl _)).tabs
 obtain ⟨Y,M⟩:∃Y,Y=[[35],I]++(if m≠[] then [[32,119,97,116,99,104,32],m] else if o≠[] then [[32,108,105,110,101,32],J,[32,105,102,32],o] else [[32,108,105,110,101,32],J]):=⟨_,rfl⟩
 rw [←M] at T;have A:Hid (Y=[[35],I]++(if m≠[] then [[32,119,97,116,99,104,32],m] else if o≠[] then [[32,108,105,110,101,32],J,[32,105,102,32],o] else [[32,108,105,110,101,32],J])):=M
 have aA:Y.length≤6:=by
  rw [M]
  split
  ·simp
  ·split <;> simp
 have aC:L.length≤7:=by
  rw [T.out,List.length_append]
  split <;> simp <;> omega
 obtain ⟨w1,am,ab,B,h0⟩:=yj w (.cells #[.int .i64 id,.int .i64 line,.string (za o),.string (za m),.bool u] 82);have ax:Hid (w1=w.alloc (.cells #[.int .i64 id,.int .i64 line,.string (za o),.string (za m),.bool u] 82)):=am;have aa:Hid (w1.heap[w.heap.size]?=some (.cells #[.int .i64 id,.int .i64 line,.string (za o),.string (za m),.bool u] 82 (0,0))):=h0;have V:Hid (Below w.heap.size w w1):=ab;have HT:Hid (YB w):=ht;have c1:=aw.out w1 ab;obtain ⟨p0,p1,p2,p3,p4⟩:=zZ h0;clear hL hR ap ai ad X hI hJ M hx ht am ab h0 B
 go_enter Tryz.func29,Tryz.ntmps29
 go_wp2_with fail
 rw [←ax.out];refine c1.mono ?_;clear c1;rintro e w2 ⟨rfl,G⟩
 have q:Hid (Yk w (w2.alloc (.cells #[.string ⟨#[35]⟩,.string (za I)] 9)) w.heap.size #[.int .i64 id,.int .i64 line,.string (za o),.string (za m),.bool u] 82 (.slice (some ⟨w2.heap.size,0,none⟩) 2 2) [[35],I]) :=
  ⟨zm.lit w.heap.size w w2 [[35],I] (V.out.trans (G.mono V.out.size)) (Nat.le_trans V.out.size G.size) (by simp [maxLen]),(Below.heap_alloc _ _ _ (Nat.lt_of_lt_of_le (zc aa.out) G.size)).trans ((G.block _ (zc aa.out)).trans aa.out),HT.out⟩
 clear p0 p1 p2 p3 p4 G;obtain ⟨p0,p1,p2,p3,p4⟩:=zZ q.out.blk
 go_upto_block 0 with fail
 generalize w2.alloc (.cells #[.string ⟨#[35]⟩,.string (za I)] 9)=w3 at q p0 p1 p2 p3 p4 ⊢
 go_cut [3] (fun t wx=>Yk w wx w.heap.size #[.int .i64 id,.int .i64 line,.string (za o),.string (za m),.bool u] 82 t Y)
 case first =>
  by_cases e0:m=[]
  ·subst e0
   rw [if_neg (by simp)] at A
   by_cases e1:o=[]
   ·subst e1
    rw [if_neg (by simp)] at A
    have c:=ag.out w3 q.out.strs.below;go_wp2_with fail
    refine c.mono ?_;clear c p0 p1 p2 p3 p4;rintro e w4 ⟨rfl,hb⟩;have ah:Hid _:=q.out.new hb;clear hb
    go_wp2_with (at_builtin;refine Zg rfl _ _ rfl w.heap.size _ [[35],I] [[32,108,105,110,101,32],J] rfl w4 w ah.out.strs rfl rfl (by simp) ?_;intro v5 w5 z y;have F:Hid _:=ah.out.app (by decide) z y;clear z y)
    go_meet
    rw [A.out];exact F.out
   ·obtain ⟨D,E,rfl⟩:=List.exists_cons_of_ne_nil e1
    rw [if_pos e1] at A
    go_upto_region 6 with fail
    have H:Hid (∀W,Below w3.heap.size w3 W→W.cell? ⟨w.heap.size,1,none⟩=some (.int .i64 line)∧W.cell? ⟨w.heap.size,2,none⟩=some (.string (za (D::E)))):=fun W hW=>by
     obtain ⟨-,a,b,-,-⟩:=zZ ((hW.block _ (zc q.out.blk)).trans q.out.blk);exact ⟨a,b⟩
    have x0:∀c:zE fun W=>W.cell? ⟨w.heap.size,1,none⟩=some (.int .i64 line)∧W.cell? ⟨w.heap.size,2,none⟩=some (.string (za (D::E))),c.1.cell? ⟨w.heap.size,1,none⟩=some (.int .i64 line):=fun c=>c.2.1
    have x1:∀c:zE fun W=>W.cell? ⟨w.heap.size,1,none⟩=some (.int .i64 line)∧W.cell? ⟨w.heap.size,2,none⟩=some (.string (za (D::E))),c.1.cell? ⟨w.heap.size,2,none⟩=some (.string (za (D::E))):=fun c=>c.2.2
    haveI aB:Nonempty (zE fun W=>W.cell? ⟨w.heap.size,1,none⟩=some (.int .i64 line)∧W.cell? ⟨w.heap.size,2,none⟩=some (.string (za (D::E)))):=⟨⟨w3,H.out w3 (Below.refl _ _)⟩⟩
    have O:Hid (Below w3.heap.size w3 w3.drew):=(Below.refl _ _).drew;have Z:=q.out.strs.low;refine Z8 (n:=9) (S:=fun w'=>∃c:zE fun W=>W.cell? ⟨w.heap.size,1,none⟩=some (.int .i64 line)∧W.cell? ⟨w.heap.size,2,none⟩=some (.string (za (D::E))),w'=c.1) (by kernel_rfl) rfl rfl ?_
    refine ZB (fuel:=4) (fuel':=9) (idx:=[0,1,2,4,5]) (by kernel_rfl) rfl rfl rfl (fun _ _ _ _ _ h=>h) ⟨⟨w3.drew,H.out _ O.out⟩,rfl⟩ ?_
    show wpQuiet _ _ _ _ [_,_,_,_,_] _
    iterate 5 (go_big_quiet_step (fail))
    refine wpQuiet_nil ?_;refine zV (fuel:=3) (fuel':=4) (i:=3) rfl (by kernel_rfl) rfl rfl (by rfl) ?_
    intro K U;go_simp;refine (ag.out w3.drew (q.out.strs.below.trans (O.out.mono Z))).mono ?_;rintro e z1 ⟨rfl,hb⟩;have B:Hid (Below w3.heap.size w3 z1):=O.out.trans (hb.mono O.out.size);clear hb
    (try go_simp)
    refine U.out _ _ ⟨⟨z1,H.out z1 B.out⟩,rfl⟩ ?_;clear U K;refine zV (fuel:=2) (fuel':=3) (i:=6) rfl (by kernel_rfl) rfl rfl (by rfl) ?_
    intro K U;go_simp;have az:Hid (Below w3.heap.size w3 (z1.alloc (.cells #[.string ⟨#[32,108,105,110,101,32]⟩,.string (za J),.string ⟨#[32,105,102,32]⟩,.string (za (D::E))] 9))):=B.out.alloc B.out.size _;refine U.out _ _ ⟨⟨_,H.out _ az.out⟩,rfl⟩ ?_;clear U K;have aq:Hid _:=q.out.new B.out;refine xy (fuel:=1) (fuel':=2) (i:=7) rfl (by kernel_rfl) rfl rfl (by rfl) ?_
    intro K U;refine Za (.tmp 27) (.tmp 33) rfl (by rfl) w.heap.size _ [[35],I] [[32,108,105,110,101,32],J,[32,105,102,32],D::E] rfl z1 w aq.out.strs rfl rfl (by simp) ?_
    intro v9 z3 an aj;have ao:Hid _:=aq.out.app (by decide) an aj
    have al:Hid (z3.cell? ⟨w.heap.size,1,none⟩=some (.int .i64 line)∧z3.cell? ⟨w.heap.size,2,none⟩=some (.string (za (D::E)))):=by
     obtain ⟨-,a,b,-,-⟩:=zZ ao.out.blk;exact ⟨a,b⟩
    refine U.out _ _ ⟨⟨z3,al.out⟩,rfl⟩ ?_;clear U K an aj
    (try simp only [Act.put,List.setIfInBounds_toArray,List.set_cons_zero,List.set_cons_succ])
    refine ZB (fuel:=0) (fuel':=1) (idx:=[8]) (by kernel_rfl) rfl rfl rfl (fun _ _ _ _ _ h=>h) ⟨⟨z3,al.out⟩,rfl⟩ ?_
    show wpQuiet _ _ _ _ [_] _
    iterate 1 (go_big_quiet_step (fail))
    refine wpQuiet_nil ?_;refine yH (by kernel_rfl) ?_
    clear x0 x1;go_wp2_with fail
    go_meet
    rw [A.out];exact ao.out
  ·obtain ⟨D,E,rfl⟩:=List.exists_cons_of_ne_nil e0
   rw [if_pos e0] at A
   go_wp2_with (at_builtin;refine Zg rfl _ _ rfl w.heap.size _ [[35],I] [[32,119,97,116,99,104,32],D::E] rfl w3 w q.out.strs rfl rfl (by simp) ?_;intro v5 w5 z y;have F:Hid _:=q.out.app (by decide) z y;clear z y)
   go_meet
   rw [A.out];exact F.out
 case rest =>
  have ae:Hid (Yk w wc w.heap.size #[.int .i64 id,.int .i64 line,.string (za o),.string (za m),.bool u] 82 u3 Y):=hcut;obtain ⟨r0,r1,r2,r3,r4⟩:=zZ hcut.blk;clear hcut p0 p1 p2 p3 p4
  go_upto_if 36 with fail
  go_cut [3] (fun t wx=>Yk w wx w.heap.size #[.int .i64 id,.int .i64 line,.string (za o),.string (za m),.bool u] 82 t L)
  case first =>
   cases u with
   | false =>
    go_wp2_with fail
    go_meet
    rw [T.out,if_neg (by simp),List.append_nil]
    exact ae.out
   | true =>
    go_wp2_with (at_builtin;refine Zg rfl _ _ rfl w.heap.size _ Y [[32,111,102,102]] rfl wc w ae.out.strs rfl rfl (by simp;omega) ?_;intro v5 w5 z y;have F:Hid _:=ae.out.app (by decide) z y;clear z y)
    go_meet
    rw [T.out,if_pos trivial];exact F.out
  case rest =>
   have ar:Hid (Yk w wc w.heap.size #[.int .i64 id,.int .i64 line,.string (za o),.string (za m),.bool u] 82 u3 L):=hcut;have cl:=YU ar.out.strs (by omega) au.out
   rw [←af.out] at cl;clear hcut r0 r1 r2 r3 r4;go_wp2_with fail
   refine cl.mono ?_;clear cl;rintro e w9 ⟨rfl,ak⟩;have av:Hid (Below w.heap.size w w9):=ak;clear ak;go_wp2
   go_ret
   exact ⟨rfl,av.out⟩
end Go.Proofs.YtbjndgachcdbcaaGreatDoor
