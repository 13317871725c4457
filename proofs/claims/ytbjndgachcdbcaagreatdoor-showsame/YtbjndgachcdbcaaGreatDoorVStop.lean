import Derived.Test.YtbjndgachcdbcaaGreatDoorMC21
import Derived.Deep.DeepCutAuto
import Derived.Deep.CutBlock
namespace Go.Proofs.YtbjndgachcdbcaaGreatDoor
open Go.RowKit Go.Shelf
set_option maxHeartbeats 16000000
set_option maxRecDepth 100000
theorem Xe (x:Sp) (w:World) (hx:YJ x) (ht:Yz w) :
  Calls Tryz.prog 29 #[UZ x] w fun e w'=>e=.returned (.string (za (Zl x)))∧Below w.heap.size w w':=by
 have aa:Hid (Zl x=zG (XN x).flatten):=rfl;have T:Hid (XN x=[[35],Lib.itoa x.id]++(if x.watch≠[] then [[32,119,97,116,99,104,32],x.watch] else if x.cond≠[] then [[32,108,105,110,101,32],Lib.itoa x.line,[32,105,102,32],x.cond] else [[32,108,105,110,101,32],Lib.itoa x.line])++(if x.off then [[32,111,102,102]] else [])):=rfl
 obtain ⟨L,hL⟩:∃L,L=XN x:=⟨_,rfl⟩;obtain ⟨R,hR⟩:∃R,R=Zl x:=⟨_,rfl⟩;rw [←hL] at aa T;rw [←hR] at aa ⊢;have aj:=Z0 x.id hx.id.1 hx.id.2;have ag:=Z0 x.line hx.line.1 hx.line.2;have hc:=hx.cond;have aq:=hx.watch;have Y:=hx.id;have ab:=hx.line;obtain ⟨id,line,o,m,u⟩:=x;simp only at T aj ag hc aq Y ab
 have ax:Hid (L.flatten.length≤70368744177664):=by
  show _≤_
  rw [T.out]
  repeat' split
  all_goals (simp;omega)
 obtain ⟨I,hI⟩:∃I,I=Lib.itoa id:=⟨_,rfl⟩;obtain ⟨J,hJ⟩:∃J,J=Lib.itoa line:=⟨_,rfl⟩;rw [←hI,←hJ] at T
 have aw:Hid (∀W,Below w.heap.size w W→Calls Tryz.prog 38 #[.int .i64 id] W fun e w'=>e=.returned (.string (za I))∧Below W.heap.size W w'):=fun W hW=>by
  rw [hI];exact xE id Y W (ht.below hW (Nat.le_refl _)).tabs
 have ak:Hid (∀W,Below w.heap.size w W→Calls Tryz.prog 38 #[.int .i64 line] W fun e w'=>e=.returned (.string (za J))∧Below W.heap.size W w'):=fun W hW=>by
  rw [hJ];exact xE line ab W (ht.below hW (Nat.le_refl _)).tabs
 obtain ⟨P2,M⟩:∃P2,P2=[[35],I]++(if m≠[] then [[32,119,97,116,99,104,32],m] else if o≠[] then [[32,108,105,110,101,32],J,[32,105,102,32],o] else [[32,108,105,110,101,32],J]):=⟨_,rfl⟩
 rw [←M] at T;have A:Hid (P2=[[35],I]++(if m≠[] then [[32,119,97,116,99,104,32],m] else if o≠[] then [[32,108,105,110,101,32],J,[32,105,102,32],o] else [[32,108,105,110,101,32],J])):=M
 have az:P2.length≤6:=by
  rw [M]
  split
  ·simp
  ·split <;> simp
 have aB:L.length≤7:=by
  rw [T.out,List.length_append]
  split <;> simp <;> omega
 obtain ⟨w1,ao,X,B,h0⟩:=yE w (.cells #[.int .i64 id,.int .i64 line,.string (za o),.string (za m),.bool u] 82);have au:Hid (w1=w.alloc (.cells #[.int .i64 id,.int .i64 line,.string (za o),.string (za m),.bool u] 82)):=ao;have V:Hid (w1.heap[w.heap.size]?=some (.cells #[.int .i64 id,.int .i64 line,.string (za o),.string (za m),.bool u] 82 (0,0))):=h0;have Z:Hid (Below w.heap.size w w1):=X;have HT:Hid (Yz w):=ht;have c1:=aw.out w1 X;obtain ⟨p0,p1,p2,p3,p4⟩:=Zb h0;clear hL hR aj ag Y ab hI hJ M hx ht ao X h0 B
 go_enter Tryz.func29,Tryz.ntmps29
 go_wp2_with fail
 rw [←au.out];refine c1.mono ?_;clear c1;rintro e w2 ⟨rfl,G⟩
 have q:Hid (Yt w (w2.alloc (.cells #[.string ⟨#[35]⟩,.string (za I)] 9)) w.heap.size #[.int .i64 id,.int .i64 line,.string (za o),.string (za m),.bool u] 82 (.slice (some ⟨w2.heap.size,0,none⟩) 2 2) [[35],I]) :=
  ⟨zo.lit w.heap.size w w2 [[35],I] (Z.out.trans (G.mono Z.out.size)) (Nat.le_trans Z.out.size G.size) (by simp [maxLen]),(Below.heap_alloc _ _ _ (Nat.lt_of_lt_of_le (zc V.out) G.size)).trans ((G.block _ (zc V.out)).trans V.out),HT.out⟩
 clear p0 p1 p2 p3 p4 G;obtain ⟨p0,p1,p2,p3,p4⟩:=Zb q.out.blk
 go_upto_block 0 with fail
 generalize w2.alloc (.cells #[.string ⟨#[35]⟩,.string (za I)] 9)=w3 at q p0 p1 p2 p3 p4 ⊢
 go_cut [3] (fun t wx=>Yt w wx w.heap.size #[.int .i64 id,.int .i64 line,.string (za o),.string (za m),.bool u] 82 t P2)
 case first =>
  by_cases e0:m=[]
  ·subst e0
   rw [if_neg (by simp)] at A
   by_cases e1:o=[]
   ·subst e1
    rw [if_neg (by simp)] at A
    have c:=ak.out w3 q.out.strs.below;go_wp2_with fail
    refine c.mono ?_;clear c p0 p1 p2 p3 p4;rintro e w4 ⟨rfl,hb⟩;have al:Hid _:=q.out.new hb;clear hb
    go_wp2_with (at_builtin;refine Zk rfl _ _ rfl w.heap.size _ [[35],I] [[32,108,105,110,101,32],J] rfl w4 w al.out.strs rfl rfl (by simp) ?_;intro v5 w5 z y;have D:Hid _:=al.out.app (by decide) z y;clear z y)
    go_meet
    rw [A.out];exact D.out
   ·obtain ⟨F,E,rfl⟩:=List.exists_cons_of_ne_nil e1
    rw [if_pos e1] at A
    go_upto_region 6 with fail
    have H:Hid (∀W,Below w3.heap.size w3 W→W.cell? ⟨w.heap.size,1,none⟩=some (.int .i64 line)∧W.cell? ⟨w.heap.size,2,none⟩=some (.string (za (F::E)))):=fun W hW=>by
     obtain ⟨-,a,b,-,-⟩:=Zb ((hW.block _ (zc q.out.blk)).trans q.out.blk);exact ⟨a,b⟩
    have x0:∀c:zC fun W=>W.cell? ⟨w.heap.size,1,none⟩=some (.int .i64 line)∧W.cell? ⟨w.heap.size,2,none⟩=some (.string (za (F::E))),c.1.cell? ⟨w.heap.size,1,none⟩=some (.int .i64 line):=fun c=>c.2.1
    have x1:∀c:zC fun W=>W.cell? ⟨w.heap.size,1,none⟩=some (.int .i64 line)∧W.cell? ⟨w.heap.size,2,none⟩=some (.string (za (F::E))),c.1.cell? ⟨w.heap.size,2,none⟩=some (.string (za (F::E))):=fun c=>c.2.2
    haveI aA:Nonempty (zC fun W=>W.cell? ⟨w.heap.size,1,none⟩=some (.int .i64 line)∧W.cell? ⟨w.heap.size,2,none⟩=some (.string (za (F::E)))):=⟨⟨w3,H.out w3 (Below.refl _ _)⟩⟩
    have O:Hid (Below w3.heap.size w3 w3.drew):=(Below.refl _ _).drew;have ae:=q.out.strs.low;refine ZR (n:=9) (S:=fun w'=>∃c:zC fun W=>W.cell? ⟨w.heap.size,1,none⟩=some (.int .i64 line)∧W.cell? ⟨w.heap.size,2,none⟩=some (.string (za (F::E))),w'=c.1) (by kernel_rfl) rfl rfl ?_
    refine zS (fuel:=4) (fuel':=9) (idx:=[0,1,2,4,5]) (by kernel_rfl) rfl rfl rfl (fun _ _ _ _ _ h=>h) ⟨⟨w3.drew,H.out _ O.out⟩,rfl⟩ ?_
    show wpQuiet _ _ _ _ [_,_,_,_,_] _
    iterate 5 (go_big_quiet_step (fail))
    refine wpQuiet_nil ?_;refine zB (fuel:=3) (fuel':=4) (i:=3) rfl (by kernel_rfl) rfl rfl (by rfl) ?_
    intro K U;go_simp;refine (ak.out w3.drew (q.out.strs.below.trans (O.out.mono ae))).mono ?_;rintro e z1 ⟨rfl,hb⟩;have B:Hid (Below w3.heap.size w3 z1):=O.out.trans (hb.mono O.out.size);clear hb
    (try go_simp)
    refine U.out _ _ ⟨⟨z1,H.out z1 B.out⟩,rfl⟩ ?_;clear U K;refine zB (fuel:=2) (fuel':=3) (i:=6) rfl (by kernel_rfl) rfl rfl (by rfl) ?_
    intro K U;go_simp;have ay:Hid (Below w3.heap.size w3 (z1.alloc (.cells #[.string ⟨#[32,108,105,110,101,32]⟩,.string (za J),.string ⟨#[32,105,102,32]⟩,.string (za (F::E))] 9))):=B.out.alloc B.out.size _;refine U.out _ _ ⟨⟨_,H.out _ ay.out⟩,rfl⟩ ?_;clear U K;have an:Hid _:=q.out.new B.out;refine ZG (fuel:=1) (fuel':=2) (i:=7) rfl (by kernel_rfl) rfl rfl (by rfl) ?_
    intro K U;refine Zf (.tmp 27) (.tmp 33) rfl (by rfl) w.heap.size _ [[35],I] [[32,108,105,110,101,32],J,[32,105,102,32],F::E] rfl z1 w an.out.strs rfl rfl (by simp) ?_
    intro v9 z3 am ai;have ap:Hid _:=an.out.app (by decide) am ai
    have ah:Hid (z3.cell? ⟨w.heap.size,1,none⟩=some (.int .i64 line)∧z3.cell? ⟨w.heap.size,2,none⟩=some (.string (za (F::E)))):=by
     obtain ⟨-,a,b,-,-⟩:=Zb ap.out.blk;exact ⟨a,b⟩
    refine U.out _ _ ⟨⟨z3,ah.out⟩,rfl⟩ ?_;clear U K am ai
    (try simp only [Act.put,List.setIfInBounds_toArray,List.set_cons_zero,List.set_cons_succ])
    refine zS (fuel:=0) (fuel':=1) (idx:=[8]) (by kernel_rfl) rfl rfl rfl (fun _ _ _ _ _ h=>h) ⟨⟨z3,ah.out⟩,rfl⟩ ?_
    show wpQuiet _ _ _ _ [_] _
    iterate 1 (go_big_quiet_step (fail))
    refine wpQuiet_nil ?_;refine Zv (by kernel_rfl) ?_
    clear x0 x1;go_wp2_with fail
    go_meet
    rw [A.out];exact ap.out
  ·obtain ⟨F,E,rfl⟩:=List.exists_cons_of_ne_nil e0
   rw [if_pos e0] at A
   go_wp2_with (at_builtin;refine Zk rfl _ _ rfl w.heap.size _ [[35],I] [[32,119,97,116,99,104,32],F::E] rfl w3 w q.out.strs rfl rfl (by simp) ?_;intro v5 w5 z y;have D:Hid _:=q.out.app (by decide) z y;clear z y)
   go_meet
   rw [A.out];exact D.out
 case rest =>
  have ad:Hid (Yt w wc w.heap.size #[.int .i64 id,.int .i64 line,.string (za o),.string (za m),.bool u] 82 u3 P2):=hcut;obtain ⟨r0,r1,r2,r3,r4⟩:=Zb hcut.blk;clear hcut p0 p1 p2 p3 p4
  go_upto_if 36 with fail
  go_cut [3] (fun t wx=>Yt w wx w.heap.size #[.int .i64 id,.int .i64 line,.string (za o),.string (za m),.bool u] 82 t L)
  case first =>
   cases u with
   | false =>
    go_wp2_with fail
    go_meet
    rw [T.out,if_neg (by simp),List.append_nil]
    exact ad.out
   | true =>
    go_wp2_with (at_builtin;refine Zk rfl _ _ rfl w.heap.size _ P2 [[32,111,102,102]] rfl wc w ad.out.strs rfl rfl (by simp;omega) ?_;intro v5 w5 z y;have D:Hid _:=ad.out.app (by decide) z y;clear z y)
    go_meet
    rw [T.out,if_pos trivial];exact D.out
  case rest =>
   have av:Hid (Yt w wc w.heap.size #[.int .i64 id,.int .i64 line,.string (za o),.string (za m),.bool u] 82 u3 L):=hcut;have cl:=Y4 av.out.strs (by omega) ax.out
   rw [←aa.out] at cl;clear hcut r0 r1 r2 r3 r4;go_wp2_with fail
   refine cl.mono ?_;clear cl;rintro e w9 ⟨rfl,af⟩;have ar:Hid (Below w.heap.size w w9):=af;clear af;go_wp2
   go_ret
   exact ⟨rfl,ar.out⟩
end Go.Proofs.YtbjndgachcdbcaaGreatDoor
