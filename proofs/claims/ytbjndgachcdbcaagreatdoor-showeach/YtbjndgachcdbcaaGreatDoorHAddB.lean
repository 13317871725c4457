import Derived.Test.YtbjndgachcdbcaaGreatDoorMC12
namespace Go.Proofs.YtbjndgachcdbcaaGreatDoor
open Go.RowKit Go.Shelf
set_option maxHeartbeats 16000000
set_option maxRecDepth 100000
structure yQ (S:Nat→Prop) (w:World) (most:Nat) (os:List Ob) (h:Nat) (vo vc:Value):Prop where
 blk:w.heap[h]?=some (.cells #[.bool true,.int .i64 (most:Int),vo,vc] 70 (0,0))
 objs:w.ownsRow 0 92 3 vo os.length (Zl 0 os)
 cells:w.ownsRow 0 56 3 vc (zn os).length (vlC (zn os))
 sh:S h
 so:∀k,vo.ownBlock=some k→S k
 sc:∀k,vc.ownBlock=some k→S k
 use:os.length+(zn os).length≤most
 may:most≤4096
theorem zw.bare {S:Nat→Prop} {w:World} {most:Nat} {os:List Ob} {h:Nat} {vo vc:Value} (H:zw S w most os h vo vc):yQ S w most os h vo vc:=⟨H.blk,H.objs,H.cells,H.sh,H.so,H.sc,H.use,H.may⟩
theorem yQ.full {S:Nat→Prop} {w:World} {most:Nat} {os:List Ob} {h:Nat} {vo vc:Value} (H:yQ S w most os h vo vc) (ok:∀o∈os,XX o os.length=true∧Zf o):zw S w most os h vo vc:=⟨H.blk,H.objs,H.cells,H.sh,H.so,H.sc,ok,H.use,H.may⟩
theorem yQ.lt {S:Nat→Prop} {w:World} {most:Nat} {os:List Ob} {h:Nat} {vo vc:Value} (H:yQ S w most os h vo vc):h<w.heap.size:=(Array.getElem?_eq_some_iff.1 H.blk).1
theorem yQ.wide {S S':Nat→Prop} {w:World} {most:Nat} {os:List Ob} {h:Nat} {vo vc:Value} (H:yQ S w most os h vo vc) (hS:∀k,k<w.heap.size→S k→S' k):yQ S' w most os h vo vc :=
 { H with sh:=hS h H.lt H.sh,so:=fun k hk=>hS k (H.objs.lt k hk).2 (H.so k hk),sc:=fun k hk=>hS k (H.cells.lt k hk).2 (H.sc k hk) }
theorem yQ.kept {S:Nat→Prop} {w w':World} {most:Nat} {os:List Ob} {h:Nat} {vo vc:Value} (H:yQ S w most os h vo vc) (hb:∀k,S k→k<w.heap.size→w'.heap[k]?=w.heap[k]?):yQ S w' most os h vo vc :=
 { H with blk:=(hb h H.sh H.lt).trans H.blk,objs:=zi H.objs fun k hk hlt=>hb k (H.so k hk) hlt,cells:=zi H.cells fun k hk hlt=>hb k (H.sc k hk) hlt }
theorem yQ.below {S:Nat→Prop} {w w':World} {most:Nat} {os:List Ob} {h:Nat} {vo vc:Value} (H:yQ S w most os h vo vc) (hb:Below w.heap.size w w'):yQ S w' most os h vo vc:=H.kept fun k _ hk=>hb.block k hk
theorem yQ.apart {S:Nat→Prop} {w:World} {most:Nat} {os:List Ob} {h:Nat} {vo vc:Value} (H:yQ S w most os h vo vc):vo.ownBlock≠some h∧vc.ownBlock≠some h∧∀k,vo.ownBlock=some k→vc.ownBlock≠some k:=by
 refine ⟨fun e=>?_,fun e=>?_,fun k e e'=>?_⟩
 ·obtain ⟨m,b⟩:=zk H.objs e
  rw [H.blk] at b
  simp at b
 ·obtain ⟨m,b⟩:=zk H.cells e
  rw [H.blk] at b
  simp at b
 ·obtain ⟨m,b⟩:=zk H.objs e
  obtain ⟨o,c⟩:=zk H.cells e';rw [b] at c
  simp at c
theorem vk {S:Nat→Prop} {w w1 w2 w3:World} {most:Nat} {os:List Ob} {h:Nat} {vo vc vc':Value} {tag:List UInt8} {vl:Value} {l:List Vl} (hb1:Below w.heap.size w w1) (hz:w1.heap.size=w.heap.size+1) (hh:h<w.heap.size)
  (hblk1:w1.heap[w.heap.size]?=some (.cells #[.string (za tag),vl] 49 (0,0))) (H2:yQ S w2 most os h vo vc) (hb2:Below w1.heap.size w1 w2) (hown:w3.ownsRow 0 56 3 vc' ((zn os).length+l.length) (vlC (zn os)++vlC l))
  (hg:w2.grownBy w3 vc.ownBlock) (hat:vc'.ownBlock=vc.ownBlock∨vc'.ownBlock=some w2.heap.size):ZU S w most os h vo tag vl l vc' (w3.setCell ⟨h,3,none⟩ vc'):=by
 have c:=H2.apart;have u:w1.heap.size≤w2.heap.size:=hb2.size;have z:zt S w w3:=(zt.of (hb1.trans (hb2.mono (by omega)))).grown hg fun k e _=>H2.sc k e
 have o:∀k,vc'.ownBlock=some k→k≠h:=fun k e m=>by
  subst m;rcases hat with b | b
  ·exact c.2.1 (b.symm.trans e)
  ·rw [e] at b
   have:=Option.some.inj b
   omega
 have y:w.heap.size≠h:=by omega
 refine ⟨?_,?_,?_,?_,z.set _ (fun _=>H2.sh),fun k e=>?_⟩
 ·exact zj _ ((hg.block h H2.lt fun e=>c.2.1 e.symm).trans H2.blk)
 ·refine zi (w:=w3) (zi H2.objs fun k e hk=>hg.block k hk fun m=>c.2.2 k e m.symm) fun k e _=>Below.heap_setCell _ _ _ _ (by intro m;simp only at m;subst m;exact c.1 e)
 ·exact zi hown fun k e _=>Below.heap_setCell _ _ _ _ (o k e)
 ·rw [Below.heap_setCell _ _ _ _ (by simpa using y),hg.block _ (by omega) (fun e=>?_),hb2.block _ (by omega)]
  ·exact hblk1
  ·obtain ⟨A,q⟩:=zk H2.cells e.symm
   rw [hb2.block _ (by omega),hblk1] at q
   simp at q
 ·rcases hat with b | b
  ·exact .inl (H2.sc k (b.symm.trans e))
  ·rw [e] at b
   have:=Option.some.inj b
   right;omega
theorem xU {S:Nat→Prop} {w wc w2 w3:World} {most:Nat} {os:List Ob} {h:Nat} {vo vo' vc:Value} {tag:List UInt8} {vl:Value} {l:List Vl} (hM:ZU S w most os h vo tag vl l vc wc) (hh:h<w.heap.size) (hSh:S h) (hso:∀k,vo.ownBlock=some k→S k) (hb2:Below wc.heap.size wc w2)
  (hown:(w3.ownsRow 0 92 3 vo' (os.length+1) (Zl 0 os++[.string (za tag),.int .i64 ((zn os).length:Int),.int .i64 ((zn os).length+l.length:Int)])))
  (o:Obj) (hg:(w2.alloc o).grownBy w3 vo.ownBlock) (hat:vo'.ownBlock=vo.ownBlock∨vo'.ownBlock=some (w2.alloc o).heap.size) (hu:os.length+(zn os).length+1+l.length≤most) (hmay:most≤4096) :
  zt S w (w3.setCell ⟨h,2,none⟩ vo')∧yQ (fun k=>S k∨w.heap.size≤k) (w3.setCell ⟨h,2,none⟩ vo') most (os++[(tag,l)]) h vo' vc:=by
 obtain ⟨A,G,F,T,H,J⟩:=hM;have O:=H.size;have K:=hb2.size;have M:(w2.alloc o).heap.size=w2.heap.size+1:=by simp
 have D:h<wc.heap.size:=(Array.getElem?_eq_some_iff.1 A).1
 have y:vo.ownBlock≠some h:=fun e=>by
  obtain ⟨z,q⟩:=zk G e;rw [A] at q;simp at q
 have E:vc.ownBlock≠some h:=fun e=>by
  obtain ⟨z,q⟩:=zk F e;rw [A] at q;simp at q
 have B:∀k,vc.ownBlock=some k→vo.ownBlock≠some k:=fun k e e'=>by
  obtain ⟨z,q⟩:=zk G e';obtain ⟨I,u⟩:=zk F e;rw [q] at u;simp at u
 have m:∀k,vo'.ownBlock=some k→vo.ownBlock=some k∨wc.heap.size≤k:=fun k e=>by
  rcases hat with c | c
  ·exact .inl (c.symm.trans e)
  ·rw [e] at c
   have:=Option.some.inj c
   right;omega
 have b:∀k,k<wc.heap.size→vo.ownBlock≠some k→w3.heap[k]?=wc.heap[k]?:=fun k hk hne=>by
  rw [hg.block k (by omega) (fun e=>hne e.symm),Below.heap_alloc _ _ _ (by omega),hb2.block k hk]
 have R:zt S w w3:=(H.trans (zt.of (S:=S) hb2) fun _ _ h=>h).alloc o |>.grown hg fun k e _=>hso k e
 refine ⟨R.set _ (fun _=>hSh),?_⟩
 refine ⟨?_,?_,?_,.inl hSh,fun k e=>?_,fun k e=>J k e,?_,hmay⟩
 ·exact zj _ ((b h D y).trans A)
 ·rw [yW,List.length_append]
  refine zi (w:=w3) ?_ fun k e _=>Below.heap_setCell _ _ _ _ (fun e'=>?_)
  ·simpa using hown
  ·simp only at e'
   subst e';rcases m k e with c | c
   ·exact y c
   ·omega
 ·rw [Zo,List.length_append,xK]
  exact zi F fun k e hk=>(Below.heap_setCell _ _ _ _ (fun e'=>E (by simp only at e';rw [e,e']))).trans (b k hk (B k e))
 ·rcases m k e with c | c
  ·exact .inl (hso k c)
  ·right;omega
 ·rw [Zo,List.length_append,List.length_append,List.length_singleton];simp only;omega
theorem V8 (S T:Nat→Prop) (most:Nat) (os:List Ob) (h:Nat) (vo vc:Value) (o:Ob) (vl:Value) (w:World) (H:yQ S w most os h vo vc) (hv:zp T w vl o.2) (ho:Zf o) (hu:os.length+(zn os).length+1+o.2.length≤most) :
  Calls Tryz.prog 21 #[.pointer (some ⟨h,0,none⟩),.agg #[.string (za o.1),vl]] w fun e w'=>e=.returned (.tuple #[])∧zt S w w'∧∃vo' vc',yQ (fun k=>S k∨w.heap.size≤k) w' most (os++[o]) h vo' vc':=by
 obtain ⟨i0,aB,az,aD,ak⟩:=info_parts Xk;obtain ⟨j0,aA,al,an,aC⟩:=info_parts VQ;obtain ⟨q,l⟩:=o;obtain ⟨aq,aa⟩:=ho;simp only at aq aa hv hu;have ae:=H.may;obtain ⟨w1,I⟩:∃w1,w1=w.alloc (.cells #[.string (za q),vl] 49):=⟨_,rfl⟩;have F:Below w.heap.size w w1:=by rw [I];exact (Below.refl _ w).alloc (Nat.le_refl _) _
 have ad:w1.heap.size=w.heap.size+1:=by rw [I];simp
 have E:w1.heap[w.heap.size]?=some (.cells #[.string (za q),vl] 49 (0,0)):=by rw [I];exact World.alloc_heap_new _ _
 have X:yQ S w1 most os h vo vc:=H.below F;obtain ⟨D,B,aE,aP,Z⟩:=Zm X.objs;obtain ⟨cb,cc,ao,aK,aM⟩:=Zm X.cells;subst aE ao;obtain ⟨c0,c1,c2,c3,cf⟩:=Zt X.blk;have ap:=cf 2;have av:=cf 3;obtain ⟨q0,q1,-⟩:=yK E;have aj:zp T w1 vl l:=hv.kept F.size fun k _ hk=>F.block k hk
 have ah:=X.apart;have ab:=X.lt
 have ca:∀W:World,Below w1.heap.size w1 W→Calls Tryz.prog 34 #[vl] W fun e w2=>∃Y z,e=.returned (.slice (some ⟨Y,0,none⟩) l.length z)∧w2.cell? ⟨h,3,none⟩=some (.slice cb (zn os).length cc) ∧
   Hid (yQ S w2 most os h (.slice D os.length B) (.slice cb (zn os).length cc))∧Hid (∀j u,(vlC l)[j]?=some u→w2.cell? ((⟨Y,0,none⟩:Addr).add j)=some u)∧Hid (Below w1.heap.size w1 w2):=fun W hW=>by
  refine (Xl T l vl W (aj.kept hW.size fun k _ hk=>hW.block k hk) aa (by omega)).mono ?_
  rintro e w2 ⟨Y,z,rfl,Z,R⟩;have J:Below w1.heap.size w1 w2:=hW.trans (R.mono hW.size);exact ⟨Y,z,rfl,(zb J ab).trans c3,X.below J,Z.cells rfl,J⟩
 have ar:Hid (Below w.heap.size w w1):=F;have M:Below w1.heap.size w1 w1.drew:=(Below.refl _ _).drew;have af:Hid ((Value.slice cb (zn os).length cc).ownBlock≠some h):=ah.2.1;have aF:=I.symm;have ag:h<w.heap.size:=H.lt;have ay:Hid (S h):=H.sh;have au:Hid (∀k,(Value.slice D os.length B).ownBlock=some k→S k):=H.so;clear hv aj F H X ah I
 go_enter Tryz.func21,Tryz.ntmps21
 go_upto_region 2 with fail
 go_cut [0] (fun p wx=>p=.pointer (some ⟨h,0,none⟩)∧∃c m,ZU S w most os h (.slice D os.length B) q vl l (.slice c ((zn os).length+l.length) m) wx)
 case first =>
  go_region_law (first
   | (refine Z5 (.tmp 14) (.tmp 17) 47 rfl (by rfl) 0 56 i0 _ 3 32 Tryz.underlying47 aB az aD ak rfl (by decide) _ (zn os).length _ rfl U.out.cells ⟨Y,0,none⟩ l.length z (vlC l) rfl (by rw [Yy]) aw.out (Ug l) (by unfold maxLen;omega) (by omega) (Nat.zero_le _) ?_
      intro v3 O b A y;obtain ⟨c,m,rfl,aH,aJ⟩:=Zm b;have f3:O.frozen? ⟨h,3,none⟩=false:=(World.frozen?_of_block (A.block h U.out.lt (fun e=>af.out e.symm))).trans ((Zt U.out.blk).2.2.2.2 3)
      have d3:O.cell? ⟨h,3,none⟩=some (.slice cb (zn os).length cc):=(World.cell?_of_block (A.block h U.out.lt (fun e=>af.out e.symm))).trans e3
      have HM:Hid (ZU S w most os h (.slice D os.length B) q vl l (.slice c ((zn os).length+l.length) m) (O.setCell ⟨h,3,none⟩ (.slice c ((zn os).length+l.length) m))):=vk ar.out ad ag E U.out G.out b A y
      clear b A y)
   | (go_simp
      go_at_call 34
      refine (ca _ M).mono ?_
      rintro e w2 ⟨Y,z,rfl,e3,U,aw,G⟩))
  all_goals (go_wp2_with fail;go_meet)
  all_goals exact ⟨rfl,c,m,HM.out⟩
 case rest =>
  obtain ⟨rfl,c,m,hM⟩:=hcut;have HM:Hid (ZU S w most os h (.slice D os.length B) q vl l (.slice c ((zn os).length+l.length) m) wc):=hM;obtain ⟨m1,m2,-,m4,-,-⟩:=hM;clear c0 c1 c2 c3 cf ap av q0 q1 ca M;obtain ⟨-,-,c2,c3,cf⟩:=Zt m1;obtain ⟨q0,q1,-⟩:=yK m4;have K:h<wc.heap.size:=(Array.getElem?_eq_some_iff.1 m1).1
  have ai:(Value.slice D os.length B).ownBlock≠some h:=fun e=>by
   obtain ⟨aQ,hc⟩:=zk m2 e;rw [m1] at hc;simp at hc
  have ca:∀W:World,Below wc.heap.size wc W→Calls Tryz.prog 35 #[.string (za q)] W fun e w2=>e=.returned (.string (za q))∧w2.cell? ⟨h,2,none⟩=some (.slice D os.length B)∧(∀o,(w2.alloc o).cell? ⟨h,2,none⟩=some (.slice D os.length B))∧w2.cell? ⟨h,3,none⟩=some (.slice c ((zn os).length+l.length) m) ∧
    Hid (w2.heap[h]?=some (.cells #[.bool true,.int .i64 (most:Int),.slice D os.length B,.slice c ((zn os).length+l.length) m] 70 (0,0)))∧Hid (w2.ownsRow 0 92 3 (.slice D os.length B) os.length (Zl 0 os))∧Hid (Below wc.heap.size wc w2):=fun W hW=>by
   refine (yT q W (by omega)).mono ?_
   rintro e w2 ⟨rfl,R⟩;have J:Below wc.heap.size wc w2:=hW.trans (R.mono hW.size);exact ⟨rfl,(zb J K).trans c2,fun o=>Lib.cell?_alloc_some o ((zb J K).trans c2),(zb J K).trans c3,(J.block h K).trans m1,zi m2 fun k _ hk=>J.block k hk,J⟩
  have M:Below wc.heap.size wc wc.drew:=(Below.refl _ _).drew;have am:Hid ((Value.slice D os.length B).ownBlock≠some h):=ai;clear m1 m2 m4 ai cf;go_wp2_with fail
  go_region_law (first
   | (refine Z5 (.tmp 25) (.tmp 36) 68 rfl (by rfl) 0 92 j0 _ 3 32 Tryz.underlying68 aA al an aC rfl (by decide) _ os.length _ rfl (U.out.alloc _) ⟨w2.heap.size,0,none⟩ 1 1 [.string (za q),.int .i64 ((zn os).length:Int),.int .i64 ((zn os).length+l.length:Int)] rfl rfl (yU _ _ _) (by simp [Value.oneCell']) (by unfold maxLen;omega) (by omega) (Nat.zero_le _) ?_
      intro v3 O b A y;obtain ⟨aN,aO,rfl,aG,aI⟩:=Zm b;have V:O.heap[h]?=some (.cells #[.bool true,.int .i64 (most:Int),.slice D os.length B,.slice c ((zn os).length+l.length) m] 70 (0,0)):=(A.block h (by have:=G.out.size;simp;omega) (fun e=>am.out e.symm)).trans ((Below.heap_alloc _ _ _ (by have:=G.out.size;omega)).trans ax.out)
      have f3:O.frozen? ⟨h,2,none⟩=false:=(Zt V).2.2.2.2 2;have d3:O.cell? ⟨h,2,none⟩=some (.slice D os.length B):=(Zt V).2.2.1;have HD:=xU HM.out ag ay.out au.out G.out b _ A y hu ae
      clear b A y V)
   | (go_simp
      go_at_call 35
      refine (ca _ M).mono ?_
      rintro e w2 ⟨rfl,e2,aL,e3,ax,U,G⟩))
  all_goals
   go_wp2
   go_end0
   exact ⟨rfl,HD.1,_,_,HD.2⟩
end Go.Proofs.YtbjndgachcdbcaaGreatDoor
