import Derived.Test.YtbjndgachcdbcaaGreatDoorVPlace
import Derived.Deep.DeepCutAuto
import Derived.Deep.CutBlock
namespace Go.Proofs.YtbjndgachcdbcaaGreatDoor
open Go.RowKit Go.Shelf
set_option maxHeartbeats 16000000
set_option maxRecDepth 100000
theorem xu (x:Sp) (w:World) (hx:xi x) (ht:Yc w) :
  Calls Tryz.prog 29 #[uE x] w fun e w'=>e=.returned (.string (za (Zb x)))∧Below w.heap.size w w':=by
 have ad:Hid (Zb x=zB (xV x).flatten):=rfl;have T:Hid (xV x=[[35],Lib.itoa x.id]++(if x.watch≠[] then [[32,119,97,116,99,104,32],x.watch] else if x.cond≠[] then [[32,108,105,110,101,32],Lib.itoa x.line,[32,105,102,32],x.cond] else [[32,108,105,110,101,32],Lib.itoa x.line])++(if x.off then [[32,111,102,102]] else [])):=rfl
 obtain ⟨L,hL⟩:∃L,L=xV x:=⟨_,rfl⟩;obtain ⟨R,hR⟩:∃R,R=Zb x:=⟨_,rfl⟩;rw [←hL] at ad T;rw [←hR] at ad ⊢;have aj:=ZK x.id hx.id.1 hx.id.2;have ag:=ZK x.line hx.line.1 hx.line.2;have hc:=hx.cond;have aq:=hx.watch;have ab:=hx.id;have V:=hx.line;obtain ⟨id,line,o,m,u⟩:=x;simp only at T aj ag hc aq ab V
 have aw:Hid (L.flatten.length≤70368744177664):=by
  show _≤_
  rw [T.out]
  repeat' split
  all_goals (simp;omega)
 obtain ⟨I,hI⟩:∃I,I=Lib.itoa id:=⟨_,rfl⟩;obtain ⟨J,hJ⟩:∃J,J=Lib.itoa line:=⟨_,rfl⟩;rw [←hI,←hJ] at T
 have ay:Hid (∀W,Below w.heap.size w W→Calls Tryz.prog 38 #[.int .i64 id] W fun e w'=>e=.returned (.string (za I))∧Below W.heap.size W w'):=fun W hW=>by
  rw [hI];exact Y2 id ab W (ht.below hW (Nat.le_refl _)).tabs
 have an:Hid (∀W,Below w.heap.size w W→Calls Tryz.prog 38 #[.int .i64 line] W fun e w'=>e=.returned (.string (za J))∧Below W.heap.size W w'):=fun W hW=>by
  rw [hJ];exact Y2 line V W (ht.below hW (Nat.le_refl _)).tabs
 obtain ⟨P2,O⟩:∃P2,P2=[[35],I]++(if m≠[] then [[32,119,97,116,99,104,32],m] else if o≠[] then [[32,108,105,110,101,32],J,[32,105,102,32],o] else [[32,108,105,110,101,32],J]):=⟨_,rfl⟩
 rw [←O] at T;have A:Hid (P2=[[35],I]++(if m≠[] then [[32,119,97,116,99,104,32],m] else if o≠[] then [[32,108,105,110,101,32],J,[32,105,102,32],o] else [[32,108,105,110,101,32],J])):=O
 have aB:P2.length≤6:=by
  rw [O]
  split
  ·simp
  ·split <;> simp
 have aA:L.length≤7:=by
  rw [T.out,List.length_append]
  split <;> simp <;> omega
 obtain ⟨w1,am,Y,B,h0⟩:=Z5 w (.cells #[.int .i64 id,.int .i64 line,.string (za o),.string (za m),.bool u] 82);have av:Hid (w1=w.alloc (.cells #[.int .i64 id,.int .i64 line,.string (za o),.string (za m),.bool u] 82)):=am;have aa:Hid (w1.heap[w.heap.size]?=some (.cells #[.int .i64 id,.int .i64 line,.string (za o),.string (za m),.bool u] 82 (0,0))):=h0;have X:Hid (Below w.heap.size w w1):=Y;have HT:Hid (Yc w):=ht;have c1:=ay.out w1 Y;obtain ⟨p0,p1,p2,p3,p4⟩:=zU h0;clear hL hR aj ag ab V hI hJ O hx ht am Y h0 B
 go_enter Tryz.func29,Tryz.ntmps29
 go_wp2_with fail
 rw [←av.out];refine c1.mono ?_;clear c1;rintro e w2 ⟨rfl,G⟩
 have q:Hid (yS w (w2.alloc (.cells #[.string ⟨#[35]⟩,.string (za I)] 9)) w.heap.size #[.int .i64 id,.int .i64 line,.string (za o),.string (za m),.bool u] 82 (.slice (some ⟨w2.heap.size,0,none⟩) 2 2) [[35],I]) :=
  ⟨zj.lit w.heap.size w w2 [[35],I] (X.out.trans (G.mono X.out.size)) (Nat.le_trans X.out.size G.size) (by simp [maxLen]),(Below.heap_alloc _ _ _ (Nat.lt_of_lt_of_le (zc aa.out) G.size)).trans ((G.block _ (zc aa.out)).trans aa.out),HT.out⟩
 clear p0 p1 p2 p3 p4 G;obtain ⟨p0,p1,p2,p3,p4⟩:=zU q.out.blk
 go_upto_block 0 with fail
 generalize w2.alloc (.cells #[.string ⟨#[35]⟩,.string (za I)] 9)=w3 at q p0 p1 p2 p3 p4 ⊢
 go_cut [3] (fun t wx=>yS w wx w.heap.size #[.int .i64 id,.int .i64 line,.string (za o),.string (za m),.bool u] 82 t P2)
 case first =>
  by_cases e0:m=[]
  ·subst e0
   rw [if_neg (by simp)] at A
   by_cases e1:o=[]
   ·subst e1
    rw [if_neg (by simp)] at A
    have c:=an.out w3 q.out.strs.below;go_wp2_with fail
    refine c.mono ?_;clear c p0 p1 p2 p3 p4;rintro e w4 ⟨rfl,hb⟩;have al:Hid _:=q.out.new hb;clear hb
    go_wp2_with (at_builtin;refine Za rfl _ _ rfl w.heap.size _ [[35],I] [[32,108,105,110,101,32],J] rfl w4 w al.out.strs rfl rfl (by simp) ?_;intro v5 w5 z y;have F:Hid _:=al.out.app (by decide) z y;clear z y)
    go_meet
    rw [A.out];exact F.out
   ·obtain ⟨D,E,rfl⟩:=List.exists_cons_of_ne_nil e1
    rw [if_pos e1] at A
    go_upto_region 6 with fail
    have M:Hid (∀W,Below w3.heap.size w3 W→W.cell? ⟨w.heap.size,1,none⟩=some (.int .i64 line)∧W.cell? ⟨w.heap.size,2,none⟩=some (.string (za (D::E)))):=fun W hW=>by
     obtain ⟨-,a,b,-,-⟩:=zU ((hW.block _ (zc q.out.blk)).trans q.out.blk);exact ⟨a,b⟩
    have x0:∀c:zD fun W=>W.cell? ⟨w.heap.size,1,none⟩=some (.int .i64 line)∧W.cell? ⟨w.heap.size,2,none⟩=some (.string (za (D::E))),c.1.cell? ⟨w.heap.size,1,none⟩=some (.int .i64 line):=fun c=>c.2.1
    have x1:∀c:zD fun W=>W.cell? ⟨w.heap.size,1,none⟩=some (.int .i64 line)∧W.cell? ⟨w.heap.size,2,none⟩=some (.string (za (D::E))),c.1.cell? ⟨w.heap.size,2,none⟩=some (.string (za (D::E))):=fun c=>c.2.2
    haveI az:Nonempty (zD fun W=>W.cell? ⟨w.heap.size,1,none⟩=some (.int .i64 line)∧W.cell? ⟨w.heap.size,2,none⟩=some (.string (za (D::E)))):=⟨⟨w3,M.out w3 (Below.refl _ _)⟩⟩
    have H:Hid (Below w3.heap.size w3 w3.drew):=(Below.refl _ _).drew;have ae:=q.out.strs.low;refine ZZ (n:=9) (S:=fun w'=>∃c:zD fun W=>W.cell? ⟨w.heap.size,1,none⟩=some (.int .i64 line)∧W.cell? ⟨w.heap.size,2,none⟩=some (.string (za (D::E))),w'=c.1) (by kernel_rfl) rfl rfl ?_
    refine Zv (fuel:=4) (fuel':=9) (idx:=[0,1,2,4,5]) (by kernel_rfl) rfl rfl rfl (fun _ _ _ _ _ h=>h) ⟨⟨w3.drew,M.out _ H.out⟩,rfl⟩ ?_
    show wpQuiet _ _ _ _ [_,_,_,_,_] _
    iterate 5 (go_big_quiet_step (fail))
    refine wpQuiet_nil ?_;refine zR (fuel:=3) (fuel':=4) (i:=3) rfl (by kernel_rfl) rfl rfl (by rfl) ?_
    intro K U;go_simp;refine (an.out w3.drew (q.out.strs.below.trans (H.out.mono ae))).mono ?_;rintro e z1 ⟨rfl,hb⟩;have B:Hid (Below w3.heap.size w3 z1):=H.out.trans (hb.mono H.out.size);clear hb
    (try go_simp)
    refine U.out _ _ ⟨⟨z1,M.out z1 B.out⟩,rfl⟩ ?_;clear U K;refine zR (fuel:=2) (fuel':=3) (i:=6) rfl (by kernel_rfl) rfl rfl (by rfl) ?_
    intro K U;go_simp;have au:Hid (Below w3.heap.size w3 (z1.alloc (.cells #[.string ⟨#[32,108,105,110,101,32]⟩,.string (za J),.string ⟨#[32,105,102,32]⟩,.string (za (D::E))] 9))):=B.out.alloc B.out.size _;refine U.out _ _ ⟨⟨_,M.out _ au.out⟩,rfl⟩ ?_;clear U K;have ah:Hid _:=q.out.new B.out;refine xf (fuel:=1) (fuel':=2) (i:=7) rfl (by kernel_rfl) rfl rfl (by rfl) ?_
    intro K U;refine zY (.tmp 27) (.tmp 33) rfl (by rfl) w.heap.size _ [[35],I] [[32,108,105,110,101,32],J,[32,105,102,32],D::E] rfl z1 w ah.out.strs rfl rfl (by simp) ?_
    intro v9 z3 ai ap;have ak:Hid _:=ah.out.app (by decide) ai ap
    have af:Hid (z3.cell? ⟨w.heap.size,1,none⟩=some (.int .i64 line)∧z3.cell? ⟨w.heap.size,2,none⟩=some (.string (za (D::E)))):=by
     obtain ⟨-,a,b,-,-⟩:=zU ak.out.blk;exact ⟨a,b⟩
    refine U.out _ _ ⟨⟨z3,af.out⟩,rfl⟩ ?_;clear U K ai ap
    (try simp only [Act.put,List.setIfInBounds_toArray,List.set_cons_zero,List.set_cons_succ])
    refine Zv (fuel:=0) (fuel':=1) (idx:=[8]) (by kernel_rfl) rfl rfl rfl (fun _ _ _ _ _ h=>h) ⟨⟨z3,af.out⟩,rfl⟩ ?_
    show wpQuiet _ _ _ _ [_] _
    iterate 1 (go_big_quiet_step (fail))
    refine wpQuiet_nil ?_;refine yo (by kernel_rfl) ?_
    clear x0 x1;go_wp2_with fail
    go_meet
    rw [A.out];exact ak.out
  ·obtain ⟨D,E,rfl⟩:=List.exists_cons_of_ne_nil e0
   rw [if_pos e0] at A
   go_wp2_with (at_builtin;refine Za rfl _ _ rfl w.heap.size _ [[35],I] [[32,119,97,116,99,104,32],D::E] rfl w3 w q.out.strs rfl rfl (by simp) ?_;intro v5 w5 z y;have F:Hid _:=q.out.app (by decide) z y;clear z y)
   go_meet
   rw [A.out];exact F.out
 case rest =>
  have Z:Hid (yS w wc w.heap.size #[.int .i64 id,.int .i64 line,.string (za o),.string (za m),.bool u] 82 u3 P2):=hcut;obtain ⟨r0,r1,r2,r3,r4⟩:=zU hcut.blk;clear hcut p0 p1 p2 p3 p4
  go_upto_if 36 with fail
  go_cut [3] (fun t wx=>yS w wx w.heap.size #[.int .i64 id,.int .i64 line,.string (za o),.string (za m),.bool u] 82 t L)
  case first =>
   cases u with
   | false =>
    go_wp2_with fail
    go_meet
    rw [T.out,if_neg (by simp),List.append_nil]
    exact Z.out
   | true =>
    go_wp2_with (at_builtin;refine Za rfl _ _ rfl w.heap.size _ P2 [[32,111,102,102]] rfl wc w Z.out.strs rfl rfl (by simp;omega) ?_;intro v5 w5 z y;have F:Hid _:=Z.out.app (by decide) z y;clear z y)
    go_meet
    rw [T.out,if_pos trivial];exact F.out
  case rest =>
   have ax:Hid (yS w wc w.heap.size #[.int .i64 id,.int .i64 line,.string (za o),.string (za m),.bool u] 82 u3 L):=hcut;have cl:=Yv ax.out.strs (by omega) aw.out
   rw [←ad.out] at cl;clear hcut r0 r1 r2 r3 r4;go_wp2_with fail
   refine cl.mono ?_;clear cl;rintro e w9 ⟨rfl,ao⟩;have ar:Hid (Below w.heap.size w w9):=ao;clear ao;go_wp2
   go_ret
   exact ⟨rfl,ar.out⟩
end Go.Proofs.YtbjndgachcdbcaaGreatDoor
