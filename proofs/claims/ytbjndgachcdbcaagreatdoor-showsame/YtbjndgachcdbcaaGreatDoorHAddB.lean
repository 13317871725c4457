import Derived.Test.YtbjndgachcdbcaaGreatDoorMC12
namespace Go.Proofs.YtbjndgachcdbcaaGreatDoor
open Go.RowKit Go.Shelf
set_option maxHeartbeats 16000000
set_option maxRecDepth 100000
structure yT (S:Nat→Prop) (w:World) (most:Nat) (os:List Ob) (h:Nat) (vo vc:Value):Prop where
 blk:w.heap[h]?=some (.cells #[.bool true,.int .i64 (most:Int),vo,vc] 70 (0,0))
 objs:w.ownsRow 0 92 3 vo os.length (Zo 0 os)
 cells:w.ownsRow 0 56 3 vc (zq os).length (vlC (zq os))
 sh:S h
 so:∀k,vo.ownBlock=some k→S k
 sc:∀k,vc.ownBlock=some k→S k
 use:os.length+(zq os).length≤most
 may:most≤4096
theorem zs.bare {S:Nat→Prop} {w:World} {most:Nat} {os:List Ob} {h:Nat} {vo vc:Value} (H:zs S w most os h vo vc):yT S w most os h vo vc:=⟨H.blk,H.objs,H.cells,H.sh,H.so,H.sc,H.use,H.may⟩
theorem yT.full {S:Nat→Prop} {w:World} {most:Nat} {os:List Ob} {h:Nat} {vo vc:Value} (H:yT S w most os h vo vc) (ok:∀o∈os,xb o os.length=true∧Ze o):zs S w most os h vo vc:=⟨H.blk,H.objs,H.cells,H.sh,H.so,H.sc,ok,H.use,H.may⟩
theorem yT.lt {S:Nat→Prop} {w:World} {most:Nat} {os:List Ob} {h:Nat} {vo vc:Value} (H:yT S w most os h vo vc):h<w.heap.size:=(Array.getElem?_eq_some_iff.1 H.blk).1
theorem yT.wide {S S':Nat→Prop} {w:World} {most:Nat} {os:List Ob} {h:Nat} {vo vc:Value} (H:yT S w most os h vo vc) (hS:∀k,k<w.heap.size→S k→S' k):yT S' w most os h vo vc :=
 { H with sh:=hS h H.lt H.sh,so:=fun k hk=>hS k (H.objs.lt k hk).2 (H.so k hk),sc:=fun k hk=>hS k (H.cells.lt k hk).2 (H.sc k hk) }
theorem yT.kept {S:Nat→Prop} {w w':World} {most:Nat} {os:List Ob} {h:Nat} {vo vc:Value} (H:yT S w most os h vo vc) (hb:∀k,S k→k<w.heap.size→w'.heap[k]?=w.heap[k]?):yT S w' most os h vo vc :=
 { H with blk:=(hb h H.sh H.lt).trans H.blk,objs:=zh H.objs fun k hk hlt=>hb k (H.so k hk) hlt,cells:=zh H.cells fun k hk hlt=>hb k (H.sc k hk) hlt }
theorem yT.below {S:Nat→Prop} {w w':World} {most:Nat} {os:List Ob} {h:Nat} {vo vc:Value} (H:yT S w most os h vo vc) (hb:Below w.heap.size w w'):yT S w' most os h vo vc:=H.kept fun k _ hk=>hb.block k hk
theorem yT.apart {S:Nat→Prop} {w:World} {most:Nat} {os:List Ob} {h:Nat} {vo vc:Value} (H:yT S w most os h vo vc):vo.ownBlock≠some h∧vc.ownBlock≠some h∧∀k,vo.ownBlock=some k→vc.ownBlock≠some k:=by
 refine ⟨fun e=>?_,fun e=>?_,fun k e e'=>?_⟩
 ·obtain ⟨m,b⟩:=zj H.objs e
  rw [H.blk] at b
  simp at b
 ·obtain ⟨m,b⟩:=zj H.cells e
  rw [H.blk] at b
  simp at b
 ·obtain ⟨m,b⟩:=zj H.objs e
  obtain ⟨o,c⟩:=zj H.cells e';rw [b] at c
  simp at c
theorem vO {S:Nat→Prop} {w w1 w2 w3:World} {most:Nat} {os:List Ob} {h:Nat} {vo vc vc':Value} {tag:List UInt8} {vl:Value} {l:List Vl} (hb1:Below w.heap.size w w1) (hz:w1.heap.size=w.heap.size+1) (hh:h<w.heap.size)
  (hblk1:w1.heap[w.heap.size]?=some (.cells #[.string (za tag),vl] 49 (0,0))) (H2:yT S w2 most os h vo vc) (hb2:Below w1.heap.size w1 w2) (hown:w3.ownsRow 0 56 3 vc' ((zq os).length+l.length) (vlC (zq os)++vlC l))
  (hg:w2.grownBy w3 vc.ownBlock) (hat:vc'.ownBlock=vc.ownBlock∨vc'.ownBlock=some w2.heap.size):Z6 S w most os h vo tag vl l vc' (w3.setCell ⟨h,3,none⟩ vc'):=by
 have c:=H2.apart;have z:w1.heap.size≤w2.heap.size:=hb2.size;have u:zv S w w3:=(zv.of (hb1.trans (hb2.mono (by omega)))).grown hg fun k e _=>H2.sc k e
 have o:∀k,vc'.ownBlock=some k→k≠h:=fun k e m=>by
  subst m;rcases hat with b | b
  ·exact c.2.1 (b.symm.trans e)
  ·rw [e] at b
   have:=Option.some.inj b
   omega
 have y:w.heap.size≠h:=by omega
 refine ⟨?_,?_,?_,?_,u.set _ (fun _=>H2.sh),fun k e=>?_⟩
 ·exact zi _ ((hg.block h H2.lt fun e=>c.2.1 e.symm).trans H2.blk)
 ·refine zh (w:=w3) (zh H2.objs fun k e hk=>hg.block k hk fun m=>c.2.2 k e m.symm) fun k e _=>Below.heap_setCell _ _ _ _ (by intro m;simp only at m;subst m;exact c.1 e)
 ·exact zh hown fun k e _=>Below.heap_setCell _ _ _ _ (o k e)
 ·rw [Below.heap_setCell _ _ _ _ (by simpa using y),hg.block _ (by omega) (fun e=>?_),hb2.block _ (by omega)]
  ·exact hblk1
  ·obtain ⟨A,q⟩:=zj H2.cells e.symm
   rw [hb2.block _ (by omega),hblk1] at q
   simp at q
 ·rcases hat with b | b
  ·exact .inl (H2.sc k (b.symm.trans e))
  ·rw [e] at b
   have:=Option.some.inj b
   right;omega
theorem Xg {S:Nat→Prop} {w wc w2 w3:World} {most:Nat} {os:List Ob} {h:Nat} {vo vo' vc:Value} {tag:List UInt8} {vl:Value} {l:List Vl} (hM:Z6 S w most os h vo tag vl l vc wc) (hh:h<w.heap.size) (hSh:S h) (hso:∀k,vo.ownBlock=some k→S k) (hb2:Below wc.heap.size wc w2)
  (hown:(w3.ownsRow 0 92 3 vo' (os.length+1) (Zo 0 os++[.string (za tag),.int .i64 ((zq os).length:Int),.int .i64 ((zq os).length+l.length:Int)])))
  (o:Obj) (hg:(w2.alloc o).grownBy w3 vo.ownBlock) (hat:vo'.ownBlock=vo.ownBlock∨vo'.ownBlock=some (w2.alloc o).heap.size) (hu:os.length+(zq os).length+1+l.length≤most) (hmay:most≤4096) :
  zv S w (w3.setCell ⟨h,2,none⟩ vo')∧yT (fun k=>S k∨w.heap.size≤k) (w3.setCell ⟨h,2,none⟩ vo') most (os++[(tag,l)]) h vo' vc:=by
 obtain ⟨A,G,E,T,H,K⟩:=hM;have M:=H.size;have J:=hb2.size;have R:(w2.alloc o).heap.size=w2.heap.size+1:=by simp
 have B:h<wc.heap.size:=(Array.getElem?_eq_some_iff.1 A).1
 have u:vo.ownBlock≠some h:=fun e=>by
  obtain ⟨z,q⟩:=zj G e;rw [A] at q;simp at q
 have F:vc.ownBlock≠some h:=fun e=>by
  obtain ⟨z,q⟩:=zj E e;rw [A] at q;simp at q
 have D:∀k,vc.ownBlock=some k→vo.ownBlock≠some k:=fun k e e'=>by
  obtain ⟨z,q⟩:=zj G e';obtain ⟨I,y⟩:=zj E e;rw [q] at y;simp at y
 have m:∀k,vo'.ownBlock=some k→vo.ownBlock=some k∨wc.heap.size≤k:=fun k e=>by
  rcases hat with c | c
  ·exact .inl (c.symm.trans e)
  ·rw [e] at c
   have:=Option.some.inj c
   right;omega
 have b:∀k,k<wc.heap.size→vo.ownBlock≠some k→w3.heap[k]?=wc.heap[k]?:=fun k hk hne=>by
  rw [hg.block k (by omega) (fun e=>hne e.symm),Below.heap_alloc _ _ _ (by omega),hb2.block k hk]
 have O:zv S w w3:=(H.trans (zv.of (S:=S) hb2) fun _ _ h=>h).alloc o |>.grown hg fun k e _=>hso k e
 refine ⟨O.set _ (fun _=>hSh),?_⟩
 refine ⟨?_,?_,?_,.inl hSh,fun k e=>?_,fun k e=>K k e,?_,hmay⟩
 ·exact zi _ ((b h B u).trans A)
 ·rw [yZ,List.length_append]
  refine zh (w:=w3) ?_ fun k e _=>Below.heap_setCell _ _ _ _ (fun e'=>?_)
  ·simpa using hown
  ·simp only at e'
   subst e';rcases m k e with c | c
   ·exact u c
   ·omega
 ·rw [Zr,List.length_append,xV]
  exact zh E fun k e hk=>(Below.heap_setCell _ _ _ _ (fun e'=>F (by simp only at e';rw [e,e']))).trans (b k hk (D k e))
 ·rcases m k e with c | c
  ·exact .inl (hso k c)
  ·right;omega
 ·rw [Zr,List.length_append,List.length_append,List.length_singleton];simp only;omega
theorem uD (S T:Nat→Prop) (most:Nat) (os:List Ob) (h:Nat) (vo vc:Value) (o:Ob) (vl:Value) (w:World) (H:yT S w most os h vo vc) (hv:zk T w vl o.2) (ho:Ze o) (hu:os.length+(zq os).length+1+o.2.length≤most) :
  Calls Tryz.prog 21 #[.pointer (some ⟨h,0,none⟩),.agg #[.string (za o.1),vl]] w fun e w'=>e=.returned (.tuple #[])∧zv S w w'∧∃vo' vc',yT (fun k=>S k∨w.heap.size≤k) w' most (os++[o]) h vo' vc':=by
 obtain ⟨i0,ay,al,aA,ar⟩:=info_parts Xz;obtain ⟨j0,aq,au,aD,ap⟩:=info_parts uh;obtain ⟨q,l⟩:=o;obtain ⟨aF,ad⟩:=ho;simp only at aF ad hv hu;have ag:=H.may;obtain ⟨w1,I⟩:∃w1,w1=w.alloc (.cells #[.string (za q),vl] 49):=⟨_,rfl⟩;have E:Below w.heap.size w w1:=by rw [I];exact (Below.refl _ w).alloc (Nat.le_refl _) _
 have aj:w1.heap.size=w.heap.size+1:=by rw [I];simp
 have F:w1.heap[w.heap.size]?=some (.cells #[.string (za q),vl] 49 (0,0)):=by rw [I];exact World.alloc_heap_new _ _
 have R:yT S w1 most os h vo vc:=H.below E;obtain ⟨B,D,aC,aP,af⟩:=zT R.objs;obtain ⟨cb,cc,av,aL,aO⟩:=zT R.cells;subst aC av;obtain ⟨c0,c1,c2,c3,Z⟩:=Zy R.blk;have aB:=Z 2;have aE:=Z 3;obtain ⟨q0,q1,-⟩:=yM F;have aa:zk T w1 vl l:=hv.kept E.size fun k _ hk=>E.block k hk
 have ae:=R.apart;have ai:=R.lt
 have ca:∀W:World,Below w1.heap.size w1 W→Calls Tryz.prog 34 #[vl] W fun e w2=>∃Y y,e=.returned (.slice (some ⟨Y,0,none⟩) l.length y)∧w2.cell? ⟨h,3,none⟩=some (.slice cb (zq os).length cc) ∧
   Hid (yT S w2 most os h (.slice B os.length D) (.slice cb (zq os).length cc))∧Hid (∀j u,(vlC l)[j]?=some u→w2.cell? ((⟨Y,0,none⟩:Addr).add j)=some u)∧Hid (Below w1.heap.size w1 w2):=fun W hW=>by
  refine (XA T l vl W (aa.kept hW.size fun k _ hk=>hW.block k hk) ad (by omega)).mono ?_
  rintro e w2 ⟨Y,y,rfl,af,V⟩;have J:Below w1.heap.size w1 w2:=hW.trans (V.mono hW.size);exact ⟨Y,y,rfl,(zb J ai).trans c3,R.below J,af.cells rfl,J⟩
 have aw:Hid (Below w.heap.size w w1):=E;have M:Below w1.heap.size w1 w1.drew:=(Below.refl _ _).drew;have ab:Hid ((Value.slice cb (zq os).length cc).ownBlock≠some h):=ae.2.1;have aK:=I.symm;have ak:h<w.heap.size:=H.lt;have an:Hid (S h):=H.sh;have az:Hid (∀k,(Value.slice B os.length D).ownBlock=some k→S k):=H.so;clear hv aa E H R ae I
 go_enter Tryz.func21,Tryz.ntmps21
 go_upto_region 2 with fail
 go_cut [0] (fun p wx=>p=.pointer (some ⟨h,0,none⟩)∧∃c m,Z6 S w most os h (.slice B os.length D) q vl l (.slice c ((zq os).length+l.length) m) wx)
 case first =>
  go_region_law (first
   | (refine z7 (.tmp 14) (.tmp 17) 47 rfl (by rfl) 0 56 i0 _ 3 32 Tryz.underlying47 ay al aA ar rfl (by decide) _ (zq os).length _ rfl X.out.cells ⟨Y,0,none⟩ l.length y (vlC l) rfl (by rw [YH]) ax.out (UD l) (by unfold maxLen;omega) (by omega) (Nat.zero_le _) ?_
      intro v3 U b A z;obtain ⟨c,m,rfl,aI,aJ⟩:=zT b;have f3:U.frozen? ⟨h,3,none⟩=false:=(World.frozen?_of_block (A.block h X.out.lt (fun e=>ab.out e.symm))).trans ((Zy X.out.blk).2.2.2.2 3)
      have d3:U.cell? ⟨h,3,none⟩=some (.slice cb (zq os).length cc):=(World.cell?_of_block (A.block h X.out.lt (fun e=>ab.out e.symm))).trans e3
      have HM:Hid (Z6 S w most os h (.slice B os.length D) q vl l (.slice c ((zq os).length+l.length) m) (U.setCell ⟨h,3,none⟩ (.slice c ((zq os).length+l.length) m))):=vO aw.out aj ak F X.out G.out b A z
      clear b A z)
   | (go_simp
      go_at_call 34
      refine (ca _ M).mono ?_
      rintro e w2 ⟨Y,y,rfl,e3,X,ax,G⟩))
  all_goals (go_wp2_with fail;go_meet)
  all_goals exact ⟨rfl,c,m,HM.out⟩
 case rest =>
  obtain ⟨rfl,c,m,hM⟩:=hcut;have HM:Hid (Z6 S w most os h (.slice B os.length D) q vl l (.slice c ((zq os).length+l.length) m) wc):=hM;obtain ⟨m1,m2,-,m4,-,-⟩:=hM;clear c0 c1 c2 c3 Z aB aE q0 q1 ca M;obtain ⟨-,-,c2,c3,Z⟩:=Zy m1;obtain ⟨q0,q1,-⟩:=yM m4;have K:h<wc.heap.size:=(Array.getElem?_eq_some_iff.1 m1).1
  have ah:(Value.slice B os.length D).ownBlock≠some h:=fun e=>by
   obtain ⟨aN,hc⟩:=zj m2 e;rw [m1] at hc;simp at hc
  have ca:∀W:World,Below wc.heap.size wc W→Calls Tryz.prog 35 #[.string (za q)] W fun e w2=>e=.returned (.string (za q))∧w2.cell? ⟨h,2,none⟩=some (.slice B os.length D)∧(∀o,(w2.alloc o).cell? ⟨h,2,none⟩=some (.slice B os.length D))∧w2.cell? ⟨h,3,none⟩=some (.slice c ((zq os).length+l.length) m) ∧
    Hid (w2.heap[h]?=some (.cells #[.bool true,.int .i64 (most:Int),.slice B os.length D,.slice c ((zq os).length+l.length) m] 70 (0,0)))∧Hid (w2.ownsRow 0 92 3 (.slice B os.length D) os.length (Zo 0 os))∧Hid (Below wc.heap.size wc w2):=fun W hW=>by
   refine (yW q W (by omega)).mono ?_
   rintro e w2 ⟨rfl,V⟩;have J:Below wc.heap.size wc w2:=hW.trans (V.mono hW.size);exact ⟨rfl,(zb J K).trans c2,fun o=>Lib.cell?_alloc_some o ((zb J K).trans c2),(zb J K).trans c3,(J.block h K).trans m1,zh m2 fun k _ hk=>J.block k hk,J⟩
  have M:Below wc.heap.size wc wc.drew:=(Below.refl _ _).drew;have am:Hid ((Value.slice B os.length D).ownBlock≠some h):=ah;clear m1 m2 m4 ah Z;go_wp2_with fail
  go_region_law (first
   | (refine z7 (.tmp 25) (.tmp 36) 68 rfl (by rfl) 0 92 j0 _ 3 32 Tryz.underlying68 aq au aD ap rfl (by decide) _ os.length _ rfl (X.out.alloc _) ⟨w2.heap.size,0,none⟩ 1 1 [.string (za q),.int .i64 ((zq os).length:Int),.int .i64 ((zq os).length+l.length:Int)] rfl rfl (yX _ _ _) (by simp [Value.oneCell']) (by unfold maxLen;omega) (by omega) (Nat.zero_le _) ?_
      intro v3 U b A z;obtain ⟨aM,aR,rfl,aH,aG⟩:=zT b;have O:U.heap[h]?=some (.cells #[.bool true,.int .i64 (most:Int),.slice B os.length D,.slice c ((zq os).length+l.length) m] 70 (0,0)):=(A.block h (by have:=G.out.size;simp;omega) (fun e=>am.out e.symm)).trans ((Below.heap_alloc _ _ _ (by have:=G.out.size;omega)).trans ao.out)
      have f3:U.frozen? ⟨h,2,none⟩=false:=(Zy O).2.2.2.2 2;have d3:U.cell? ⟨h,2,none⟩=some (.slice B os.length D):=(Zy O).2.2.1;have HD:=Xg HM.out ak an.out az.out G.out b _ A z hu ag
      clear b A z O)
   | (go_simp
      go_at_call 35
      refine (ca _ M).mono ?_
      rintro e w2 ⟨rfl,e2,aQ,e3,ao,X,G⟩))
  all_goals
   go_wp2
   go_end0
   exact ⟨rfl,HD.1,_,_,HD.2⟩
end Go.Proofs.YtbjndgachcdbcaaGreatDoor
