import Derived.Test.YtbjndgachcdbcaaGreatDoorVPlace
import Derived.Deep.DeepCutAuto
import Derived.Deep.CutBlock
namespace Go.Proofs.YtbjndgachcdbcaaGreatDoor
open Go.RowKit Go.Shelf
set_option maxHeartbeats 16000000
set_option maxRecDepth 100000
theorem xe (x:Sp) (w:World) (hx:Y5 x) (ht:yW w) :
  Calls Tryz.prog 29 #[V0 x] w fun e w'=>e=.returned (.string (za (Za x)))∧Below w.heap.size w w':=by
 have ab:Hid (Za x=zB (xH x).flatten):=rfl;have U:Hid (xH x=[[35],Lib.itoa x.id]++(if x.watch≠[] then [[32,119,97,116,99,104,32],x.watch] else if x.cond≠[] then [[32,108,105,110,101,32],Lib.itoa x.line,[32,105,102,32],x.cond] else [[32,108,105,110,101,32],Lib.itoa x.line])++(if x.off then [[32,111,102,102]] else [])):=rfl
 obtain ⟨L,hL⟩:∃L,L=xH x:=⟨_,rfl⟩;obtain ⟨R,hR⟩:∃R,R=Za x:=⟨_,rfl⟩;rw [←hL] at ab U;rw [←hR] at ab ⊢;have aq:=ZJ x.id hx.id.1 hx.id.2;have al:=ZJ x.line hx.line.1 hx.line.2;have hc:=hx.cond;have au:=hx.watch;have V:=hx.id;have ae:=hx.line;obtain ⟨id,line,o,m,u⟩:=x;simp only at U aq al hc au V ae
 have aw:Hid (L.flatten.length≤70368744177664):=by
  show _≤_
  rw [U.out]
  repeat' split
  all_goals (simp;omega)
 obtain ⟨I,hI⟩:∃I,I=Lib.itoa id:=⟨_,rfl⟩;obtain ⟨J,hJ⟩:∃J,J=Lib.itoa line:=⟨_,rfl⟩;rw [←hI,←hJ] at U
 have ar:Hid (∀W,Below w.heap.size w W→Calls Tryz.prog 38 #[.int .i64 id] W fun e w'=>e=.returned (.string (za I))∧Below W.heap.size W w'):=fun W hW=>by
  rw [hI];exact YS id V W (ht.below hW (Nat.le_refl _)).tabs
 have am:Hid (∀W,Below w.heap.size w W→Calls Tryz.prog 38 #[.int .i64 line] W fun e w'=>e=.returned (.string (za J))∧Below W.heap.size W w'):=fun W hW=>by
  rw [hJ];exact YS line ae W (ht.below hW (Nat.le_refl _)).tabs
 obtain ⟨Y,H⟩:∃Y,Y=[[35],I]++(if m≠[] then [[32,119,97,116,99,104,32],m] else if o≠[] then [[32,108,105,110,101,32],J,[32,105,102,32],o] else [[32,108,105,110,101,32],J]):=⟨_,rfl⟩
 rw [←H] at U;have A:Hid (Y=[[35],I]++(if m≠[] then [[32,119,97,116,99,104,32],m] else if o≠[] then [[32,108,105,110,101,32],J,[32,105,102,32],o] else [[32,108,105,110,101,32],J])):=H
 have aC:Y.length≤6:=by
  rw [H]
  split
  ·simp
  ·split <;> simp
 have aA:L.length≤7:=by
  rw [U.out,List.length_append]
  split <;> simp <;> omega
 obtain ⟨w1,ah,af,B,h0⟩:=yl w (.cells #[.int .i64 id,.int .i64 line,.string (za o),.string (za m),.bool u] 82);have av:Hid (w1=w.alloc (.cells #[.int .i64 id,.int .i64 line,.string (za o),.string (za m),.bool u] 82)):=ah;have aa:Hid (w1.heap[w.heap.size]?=some (.cells #[.int .i64 id,.int .i64 line,.string (za o),.string (za m),.bool u] 82 (0,0))):=h0;have ad:Hid (Below w.heap.size w w1):=af;have HT:Hid (yW w):=ht;have c1:=ar.out w1 af;obtain ⟨p0,p1,p2,p3,p4⟩:=zU h0;clear hL hR aq al V ae hI hJ H hx ht ah af h0 B
 go_enter Tryz.func29,Tryz.ntmps29
 go_wp2_with fail
 rw [←av.out];refine c1.mono ?_;clear c1;rintro e w2 ⟨rfl,G⟩
 have q:Hid (yL w (w2.alloc (.cells #[.string ⟨#[35]⟩,.string (za I)] 9)) w.heap.size #[.int .i64 id,.int .i64 line,.string (za o),.string (za m),.bool u] 82 (.slice (some ⟨w2.heap.size,0,none⟩) 2 2) [[35],I]) :=
  ⟨zj.lit w.heap.size w w2 [[35],I] (ad.out.trans (G.mono ad.out.size)) (Nat.le_trans ad.out.size G.size) (by simp [maxLen]),(Below.heap_alloc _ _ _ (Nat.lt_of_lt_of_le (zc aa.out) G.size)).trans ((G.block _ (zc aa.out)).trans aa.out),HT.out⟩
 clear p0 p1 p2 p3 p4 G;obtain ⟨p0,p1,p2,p3,p4⟩:=zU q.out.blk
 go_upto_block 0 with fail
 generalize w2.alloc (.cells #[.string ⟨#[35]⟩,.string (za I)] 9)=w3 at q p0 p1 p2 p3 p4 ⊢
 go_cut [3] (fun t wx=>yL w wx w.heap.size #[.int .i64 id,.int .i64 line,.string (za o),.string (za m),.bool u] 82 t Y)
 case first =>
  by_cases e0:m=[]
  ·subst e0
   rw [if_neg (by simp)] at A
   by_cases e1:o=[]
   ·subst e1
    rw [if_neg (by simp)] at A
    have c:=am.out w3 q.out.strs.below;go_wp2_with fail
    refine c.mono ?_;clear c p0 p1 p2 p3 p4;rintro e w4 ⟨rfl,hb⟩;have ao:Hid _:=q.out.new hb;clear hb
    go_wp2_with (at_builtin;refine z8 rfl _ _ rfl w.heap.size _ [[35],I] [[32,108,105,110,101,32],J] rfl w4 w ao.out.strs rfl rfl (by simp) ?_;intro v5 w5 z y;have F:Hid _:=ao.out.app (by decide) z y;clear z y)
    go_meet
    rw [A.out];exact F.out
   ·obtain ⟨E,D,rfl⟩:=List.exists_cons_of_ne_nil e1
    rw [if_pos e1] at A
    go_upto_region 6 with fail
    have O:Hid (∀W,Below w3.heap.size w3 W→W.cell? ⟨w.heap.size,1,none⟩=some (.int .i64 line)∧W.cell? ⟨w.heap.size,2,none⟩=some (.string (za (E::D)))):=fun W hW=>by
     obtain ⟨-,a,b,-,-⟩:=zU ((hW.block _ (zc q.out.blk)).trans q.out.blk);exact ⟨a,b⟩
    have x0:∀c:zD fun W=>W.cell? ⟨w.heap.size,1,none⟩=some (.int .i64 line)∧W.cell? ⟨w.heap.size,2,none⟩=some (.string (za (E::D))),c.1.cell? ⟨w.heap.size,1,none⟩=some (.int .i64 line):=fun c=>c.2.1
    have x1:∀c:zD fun W=>W.cell? ⟨w.heap.size,1,none⟩=some (.int .i64 line)∧W.cell? ⟨w.heap.size,2,none⟩=some (.string (za (E::D))),c.1.cell? ⟨w.heap.size,2,none⟩=some (.string (za (E::D))):=fun c=>c.2.2
    haveI aB:Nonempty (zD fun W=>W.cell? ⟨w.heap.size,1,none⟩=some (.int .i64 line)∧W.cell? ⟨w.heap.size,2,none⟩=some (.string (za (E::D)))):=⟨⟨w3,O.out w3 (Below.refl _ _)⟩⟩
    have M:Hid (Below w3.heap.size w3 w3.drew):=(Below.refl _ _).drew;have X:=q.out.strs.low;refine ZY (n:=9) (S:=fun w'=>∃c:zD fun W=>W.cell? ⟨w.heap.size,1,none⟩=some (.int .i64 line)∧W.cell? ⟨w.heap.size,2,none⟩=some (.string (za (E::D))),w'=c.1) (by kernel_rfl) rfl rfl ?_
    refine Zt (fuel:=4) (fuel':=9) (idx:=[0,1,2,4,5]) (by kernel_rfl) rfl rfl rfl (fun _ _ _ _ _ h=>h) ⟨⟨w3.drew,O.out _ M.out⟩,rfl⟩ ?_
    show wpQuiet _ _ _ _ [_,_,_,_,_] _
    iterate 5 (go_big_quiet_step (fail))
    refine wpQuiet_nil ?_;refine zR (fuel:=3) (fuel':=4) (i:=3) rfl (by kernel_rfl) rfl rfl (by rfl) ?_
    intro K T;go_simp;refine (am.out w3.drew (q.out.strs.below.trans (M.out.mono X))).mono ?_;rintro e z1 ⟨rfl,hb⟩;have B:Hid (Below w3.heap.size w3 z1):=M.out.trans (hb.mono M.out.size);clear hb
    (try go_simp)
    refine T.out _ _ ⟨⟨z1,O.out z1 B.out⟩,rfl⟩ ?_;clear T K;refine zR (fuel:=2) (fuel':=3) (i:=6) rfl (by kernel_rfl) rfl rfl (by rfl) ?_
    intro K T;go_simp;have ax:Hid (Below w3.heap.size w3 (z1.alloc (.cells #[.string ⟨#[32,108,105,110,101,32]⟩,.string (za J),.string ⟨#[32,105,102,32]⟩,.string (za (E::D))] 9))):=B.out.alloc B.out.size _;refine T.out _ _ ⟨⟨_,O.out _ ax.out⟩,rfl⟩ ?_;clear T K;have ai:Hid _:=q.out.new B.out;refine Y2 (fuel:=1) (fuel':=2) (i:=7) rfl (by kernel_rfl) rfl rfl (by rfl) ?_
    intro K T;refine zY (.tmp 27) (.tmp 33) rfl (by rfl) w.heap.size _ [[35],I] [[32,108,105,110,101,32],J,[32,105,102,32],E::D] rfl z1 w ai.out.strs rfl rfl (by simp) ?_
    intro v9 z3 aj ak;have ag:Hid _:=ai.out.app (by decide) aj ak
    have ap:Hid (z3.cell? ⟨w.heap.size,1,none⟩=some (.int .i64 line)∧z3.cell? ⟨w.heap.size,2,none⟩=some (.string (za (E::D)))):=by
     obtain ⟨-,a,b,-,-⟩:=zU ag.out.blk;exact ⟨a,b⟩
    refine T.out _ _ ⟨⟨z3,ap.out⟩,rfl⟩ ?_;clear T K aj ak
    (try simp only [Act.put,List.setIfInBounds_toArray,List.set_cons_zero,List.set_cons_succ])
    refine Zt (fuel:=0) (fuel':=1) (idx:=[8]) (by kernel_rfl) rfl rfl rfl (fun _ _ _ _ _ h=>h) ⟨⟨z3,ap.out⟩,rfl⟩ ?_
    show wpQuiet _ _ _ _ [_] _
    iterate 1 (go_big_quiet_step (fail))
    refine wpQuiet_nil ?_;refine yk (by kernel_rfl) ?_
    clear x0 x1;go_wp2_with fail
    go_meet
    rw [A.out];exact ag.out
  ·obtain ⟨E,D,rfl⟩:=List.exists_cons_of_ne_nil e0
   rw [if_pos e0] at A
   go_wp2_with (at_builtin;refine z8 rfl _ _ rfl w.heap.size _ [[35],I] [[32,119,97,116,99,104,32],E::D] rfl w3 w q.out.strs rfl rfl (by simp) ?_;intro v5 w5 z y;have F:Hid _:=q.out.app (by decide) z y;clear z y)
   go_meet
   rw [A.out];exact F.out
 case rest =>
  have Z:Hid (yL w wc w.heap.size #[.int .i64 id,.int .i64 line,.string (za o),.string (za m),.bool u] 82 u3 Y):=hcut;obtain ⟨r0,r1,r2,r3,r4⟩:=zU hcut.blk;clear hcut p0 p1 p2 p3 p4
  go_upto_if 36 with fail
  go_cut [3] (fun t wx=>yL w wx w.heap.size #[.int .i64 id,.int .i64 line,.string (za o),.string (za m),.bool u] 82 t L)
  case first =>
   cases u with
   | false =>
    go_wp2_with fail
    go_meet
    rw [U.out,if_neg (by simp),List.append_nil]
    exact Z.out
   | true =>
    go_wp2_with (at_builtin;refine z8 rfl _ _ rfl w.heap.size _ Y [[32,111,102,102]] rfl wc w Z.out.strs rfl rfl (by simp;omega) ?_;intro v5 w5 z y;have F:Hid _:=Z.out.app (by decide) z y;clear z y)
    go_meet
    rw [U.out,if_pos trivial];exact F.out
  case rest =>
   have ay:Hid (yL w wc w.heap.size #[.int .i64 id,.int .i64 line,.string (za o),.string (za m),.bool u] 82 u3 L):=hcut;have cl:=Yj ay.out.strs (by omega) aw.out
   rw [←ab.out] at cl;clear hcut r0 r1 r2 r3 r4;go_wp2_with fail
   refine cl.mono ?_;clear cl;rintro e w9 ⟨rfl,an⟩;have az:Hid (Below w.heap.size w w9):=an;clear an;go_wp2
   go_ret
   exact ⟨rfl,az.out⟩
end Go.Proofs.YtbjndgachcdbcaaGreatDoor
