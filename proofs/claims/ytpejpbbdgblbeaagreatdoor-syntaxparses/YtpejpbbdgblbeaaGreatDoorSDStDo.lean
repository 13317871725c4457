import Derived.Test.YtpejpbbdgblbeaaGreatDoorMC38
import Derived.Test.YtpejpbbdgblbeaaGreatDoorMC24
namespace Go.Proofs.YtpejpbbdgblbeaaGreatDoor
open Go.RowKit Go.Shelf
set_option maxHeartbeats 16000000
set_option maxRecDepth 100000
structure vJ (r g N M B:Nat) (w:World) (σ:RS) (x:Ex) (xs:List Value) (line:Nat) (W:World):Prop where
 st:yE r g N w σ #[.int .i64 7,.string ⟨#[]⟩,.slice (some ⟨M+1,0,none⟩) 1 1,.slice none 0 0,.slice none 0 0,.int .i64 line] W
 box:W.heap[M]?=some (.cells xs.toArray 45 (0,0))
 ex:zY (fun k=>B≤k) W x (.agg xs.toArray)
 row:zv (fun k=>B≤k) W [x] (.slice (some ⟨M+1,0,none⟩) 1 1)
 hN:N<B
 hM:B≤M
theorem vJ.moved {r g N M B:Nat} {w W W':World} {σ σ':RS} {x:Ex} {xs:List Value} {line:Nat} (h:vJ r g N M B w σ x xs line W) (hr:r<w.heap.size) (hK:zc r W W') (hrd:zz r g σ' W'):vJ r g N M B w σ' x xs line W' where
 st:=h.st.moved hr hK hrd
 box:=(hK.block _ (Array.getElem?_eq_some_iff.1 h.box).1 (by have:=h.st.hN;have:=h.hM;have:=h.hN;omega)).trans h.box
 ex:=zY.kept h.ex hK.size fun k hk hlt=>hK.block k hlt (by have:=h.st.hN;have:=h.hN;omega)
 row:=h.row.keptR hK fun k hk=>by have:=h.st.hN;have:=h.hN;omega
 hN:=h.hN
 hM:=h.hM
theorem vJ.drew {r g N M B:Nat} {w W:World} {σ:RS} {x:Ex} {xs:List Value} {line:Nat} (h:vJ r g N M B w σ x xs line W):vJ r g N M B w σ x xs line W.drew where
 st:=h.st.drew
 box:=h.box
 ex:=zY.kept h.ex (Nat.le_refl _) fun _ _ _=>rfl
 row:=h.row.kept (Nat.le_refl _) fun _ _ _=>rfl
 hN:=h.hN
 hM:=h.hM
theorem vJ.start {r g N B:Nat} {w W:World} {σ:RS} {x:Ex} {xs:List Value} {line:Nat} (h:yE r g N w σ #[.int .i64 0,.string ⟨#[]⟩,.slice none 0 0,.slice none 0 0,.slice none 0 0,.int .i64 line] W) (hr:r<w.heap.size) (hg:g<w.heap.size) (hx:ZO B W x (.agg xs.toArray)) (hxs:xs.length=5) (hNB:N<B) (hBW:B≤W.heap.size) :
  vJ r g N W.heap.size B w σ x xs line ((((W.setCell ⟨N,0,none⟩ (.int .i64 7)).setCell ⟨N,2,none⟩ (.slice (some ⟨W.heap.size+1,0,none⟩) 1 1)).alloc (.cells xs.toArray 45)).alloc (.cells xs.toArray 45)).drew:=by
 have h1:=((h.set hr hg 0 (.int .i64 7)).set hr hg 2 (.slice (some ⟨W.heap.size+1,0,none⟩) 1 1)).alloc (.cells xs.toArray 45)
 have hx1:zY (fun k=>B≤k) (((W.setCell ⟨N,0,none⟩ (.int .i64 7)).setCell ⟨N,2,none⟩ (.slice (some ⟨W.heap.size+1,0,none⟩) 1 1)).alloc (.cells xs.toArray 45)) x (.agg xs.toArray):=zY.kept hx (by simp) fun k hk hlt=>by
  rw [Below.heap_alloc _ _ _ (by simpa using hlt),Below.heap_setCell _ _ _ _ (by simp;omega),Below.heap_setCell _ _ _ _ (by simp;omega)]
 have h2:=zv.one (S:=fun k=>B≤k) 45 hx1 hxs (by simp;omega)
 refine vJ.drew ⟨h1.alloc _,?_,zY.kept hx1 (by simp) fun k hk hlt=>Below.heap_alloc _ _ _ hlt,by simpa using h2,hNB,hBW⟩
 rw [Below.heap_alloc _ _ _ (by simp)]
 have:=World.alloc_heap_new ((W.setCell ⟨N,0,none⟩ (.int .i64 7)).setCell ⟨N,2,none⟩ (.slice (some ⟨W.heap.size+1,0,none⟩) 1 1)) (.cells xs.toArray 45)
 simpa using this
def Yl (M:Nat) (a:Int) (b:ByteArray) (c:Int) (d0:Option Addr) (d1 d2:Nat) (l:Int) (W:World):Prop:=W.cell? ⟨M,0,none⟩=some (.int .i64 a)∧W.cell? ⟨M,1,none⟩=some (.string b)∧W.cell? ⟨M,2,none⟩=some (.int .i64 c)∧W.cell? ⟨M,3,none⟩=some (.slice d0 d1 d2)∧W.cell? ⟨M,4,none⟩=some (.int .i64 l)
theorem vJ.cells {r g N M B:Nat} {w W:World} {σ:RS} {x:Ex} {a:Int} {b:ByteArray} {c:Int} {d0:Option Addr} {d1 d2:Nat} {l:Int} {line:Nat} (h:vJ r g N M B w σ x [.int .i64 a,.string b,.int .i64 c,.slice d0 d1 d2,.int .i64 l] line W):Yl M a b c d0 d1 d2 l W:=by
 obtain ⟨h0,h1,h2,h3,h4,-⟩:=zo h.box;exact ⟨h0,h1,h2,h3,h4⟩
theorem Yl.alloc {M:Nat} {a:Int} {b:ByteArray} {c:Int} {d0:Option Addr} {d1 d2:Nat} {l:Int} {W:World} (h:Yl M a b c d0 d1 d2 l W) (ob:Obj):Yl M a b c d0 d1 d2 l (W.alloc ob):=⟨ze h.1 ob,ze h.2.1 ob,ze h.2.2.1 ob,ze h.2.2.2.1 ob,ze h.2.2.2.2 ob⟩
theorem Yl.set {M N:Nat} {a:Int} {b:ByteArray} {c:Int} {d0:Option Addr} {d1 d2:Nat} {l:Int} {W:World} (h:Yl M a b c d0 d1 d2 l W) (hN:M≠N) (j:Nat) (v:Value):Yl M a b c d0 d1 d2 l (W.setCell ⟨N,j,none⟩ v):=by
 have key:∀i,(W.setCell ⟨N,j,none⟩ v).cell? ⟨M,i,none⟩=W.cell? ⟨M,i,none⟩:=fun i=>World.cell?_setCell_other _ _ _ _ (by simp)
 exact ⟨(key 0).trans h.1,(key 1).trans h.2.1,(key 2).trans h.2.2.1,(key 3).trans h.2.2.2.1,(key 4).trans h.2.2.2.2⟩
theorem vJ.two {r g N M B:Nat} {w W0 W:World} {σ σ0:RS} {x y:Ex} {xs ys:List Value} {line:Nat} (h:vJ r g N M B w σ x xs line W) (hr:r<w.heap.size) (hg:g<w.heap.size) (h0:vJ r g N M B w σ0 x xs line W0) (hy:ZO W0.heap.size W y (.agg ys.toArray)) (hxs:xs.length=5) (hys:ys.length=5) :
  yE r g N w σ #[.int .i64 2,.string ⟨#[]⟩,.slice (some ⟨W.heap.size,0,none⟩) 2 2,.slice none 0 0,.slice none 0 0,.int .i64 line] (((W.setCell ⟨N,0,none⟩ (.int .i64 2)).setCell ⟨N,2,none⟩ (.slice (some ⟨W.heap.size,0,none⟩) 2 2)).alloc (.cells (xs++ys).toArray 45)) ∧
  zv (fun k=>B≤k) (((W.setCell ⟨N,0,none⟩ (.int .i64 2)).setCell ⟨N,2,none⟩ (.slice (some ⟨W.heap.size,0,none⟩) 2 2)).alloc (.cells (xs++ys).toArray 45)) [x,y] (.slice (some ⟨W.heap.size,0,none⟩) 2 2):=by
 have hB0:B≤W0.heap.size:=by have:=(Array.getElem?_eq_some_iff.1 h0.box).1;have:=h0.hM;omega
 have hB1:B≤W.heap.size:=by have:=(Array.getElem?_eq_some_iff.1 h.box).1;have:=h.hM;omega
 have hn:=h.hN
 have key:∀k,B≤k→((W.setCell ⟨N,0,none⟩ (.int .i64 2)).setCell ⟨N,2,none⟩ (.slice (some ⟨W.heap.size,0,none⟩) 2 2)).heap[k]?=W.heap[k]?:=fun k hk=>by
  rw [Below.heap_setCell _ _ _ _ (by simp;omega),Below.heap_setCell _ _ _ _ (by simp;omega)]
 have h1:=zv.two (S:=fun k=>B≤k) (w:=(W.setCell ⟨N,0,none⟩ (.int .i64 2)).setCell ⟨N,2,none⟩ (.slice (some ⟨W.heap.size,0,none⟩) 2 2)) 45 (h.ex.kept (by simp) fun k hk _=>key k hk) ((zY.wide hy fun k hk=>by omega:zY (fun k=>B≤k) W y _).kept (by simp) fun k hk _=>key k hk) hxs hys (by simpa using hB1)
 exact ⟨((h.st.set hr hg 0 _).set hr hg 2 _).alloc _,by simpa using h1⟩
theorem zeQ (r g F:Nat) (σ:RS) (w:World) (h:zz r g σ w) (hex:yp r g F) (h_let:zO [108,101,116] σ=false) (h_if:zO [105,102] σ=false) (h_while:zO [119,104,105,108,101] σ=false) (h_return:zO [114,101,116,117,114,110] σ=false) (qe:Ex × RS) (hqe:Z7 F 0 σ=some qe) (he:zO [61] qe.2=false) :
  Calls Tryz.prog 107 #[.pointer (some ⟨r,0,none⟩)] w (yd r g w (.mk 7 [] [qe.1] [] [] (zx σ.2).line,mustF [59] qe.2)):=by
 obtain ⟨hr,hg⟩:=h.lt;obtain ⟨t,ht⟩:∃t,t=zx σ.2:=⟨_,rfl⟩;have ct:=xO r g σ (w.alloc YR) (h.alloc _);rw [←ht] at ct ⊢;have HH:Hid (zz r g σ w):=h;have HEX:Hid (yp r g F):=hex;have hfl:=Z1;clear ht h hex
 go_enter Tryz.func107,Tryz.ntmps107
 go_wp2_with fail
 refine ct.mono ?_;clear ct;rintro e w1 ⟨rfl,hb1⟩;have hs1:w.heap.size+1≤w1.heap.size:=by have:=hb1.size;simpa using this
 have p1:w1.heap[w.heap.size]?=some YR:=(hb1.block _ (by simp)).trans (World.alloc_heap_new w _)
 have HA:Hid (yE r g w1.heap.size w σ #[.int .i64 0,.string ⟨#[]⟩,.slice none 0 0,.slice none 0 0,.slice none 0 0,.int .i64 t.line] (w1.alloc (.cells #[.int .i64 0,.string ⟨#[]⟩,.slice none 0 0,.slice none 0 0,.slice none 0 0,.int .i64 t.line] 108))):=⟨World.alloc_heap_new _ _,(Below.heap_alloc _ _ _ (by omega)).trans p1,((HH.out.alloc _).below hb1).alloc _,(((zc.refl r w).alloc _).trans (zc.of hb1)).alloc _,by omega⟩
 have hwn:w.heap.size<w1.heap.size:=by omega
 simp only [Xc];clear hb1 HH p1 hs1;have cs:=Zd r g σ [108,101,116] _ HA.out.rd;rw [h_let,zW h_let] at cs;go_wp2_with fail
 refine cs.mono ?_;clear cs;rintro e wA0 ⟨rfl,hk1,hr1⟩;have hC:=HA.out.moved hr hk1 hr1;obtain ⟨N,hN⟩:∃N,N=w1.heap.size:=⟨_,rfl⟩;rw [←hN] at hC hwn ⊢;have Hw0:Hid (yE r g N w σ #[.int .i64 0,.string ⟨#[]⟩,.slice none 0 0,.slice none 0 0,.slice none 0 0,.int .i64 t.line] wA0):=hC;clear hN hC hk1 hr1 HA;have cs:=Zd r g σ [105,102] _ Hw0.out.rd;rw [h_if,zW h_if] at cs;go_wp2_with fail
 refine cs.mono ?_;clear cs;rintro e wA1 ⟨rfl,hk1,hr1⟩;have Hw1:Hid (yE r g N w σ #[.int .i64 0,.string ⟨#[]⟩,.slice none 0 0,.slice none 0 0,.slice none 0 0,.int .i64 t.line] wA1):=Hw0.out.moved hr hk1 hr1;clear hk1 hr1 Hw0;have cs:=Zd r g σ [119,104,105,108,101] _ Hw1.out.rd;rw [h_while,zW h_while] at cs;go_wp2_with fail
 refine cs.mono ?_;clear cs;rintro e wA2 ⟨rfl,hk1,hr1⟩;have Hw2:Hid (yE r g N w σ #[.int .i64 0,.string ⟨#[]⟩,.slice none 0 0,.slice none 0 0,.slice none 0 0,.int .i64 t.line] wA2):=Hw1.out.moved hr hk1 hr1;clear hk1 hr1 Hw1;have cs:=Zd r g σ [114,101,116,117,114,110] _ Hw2.out.rd;rw [h_return,zW h_return] at cs;go_wp2_with fail
 refine cs.mono ?_;clear cs;rintro e wA3 ⟨rfl,hk1,hr1⟩;have Hw3:Hid (yE r g N w σ #[.int .i64 0,.string ⟨#[]⟩,.slice none 0 0,.slice none 0 0,.slice none 0 0,.int .i64 t.line] wA3):=Hw2.out.moved hr hk1 hr1;clear hk1 hr1 Hw2;clear h_let h_if h_while h_return;have ce:Calls Tryz.prog 139 #[.pointer (some ⟨r,0,none⟩),.int .i64 0] wA3 (Zo r g wA3 qe):=HEX.out F (Nat.le_refl _) 0 _ qe wA3 (by omega) hqe Hw3.out.rd
 clear hqe;go_wp2_with fail
 refine ce.mono ?_;clear ce;rintro e wB ⟨hkE,v,rfl,hx,hrE⟩;obtain ⟨a,b,c,d0,d1,d2,l,rfl⟩:=hx.agg;have HAK:Hid (a=(qe.1.kind:Int)):=hx.kind_eq;have hNA:N<wA3.heap.size:=(Array.getElem?_eq_some_iff.1 Hw3.out.blkN).1;have hsE:=hkE.size;have HwB:Hid (yE r g N w qe.2 #[.int .i64 0,.string ⟨#[]⟩,.slice none 0 0,.slice none 0 0,.slice none 0 0,.int .i64 t.line] wB):=Hw3.out.moved hr hkE hrE;have HS:Hid (vJ r g N wB.heap.size wA3.heap.size w qe.2 qe.1 [.int .i64 a,.string b,.int .i64 c,.slice d0 d1 d2,.int .i64 l] t.line ((((wB.setCell ⟨N,0,none⟩ (.int .i64 7)).setCell ⟨N,2,none⟩ (.slice (some ⟨wB.heap.size+1,0,none⟩) 1 1)).alloc (.cells #[.int .i64 a,.string b,.int .i64 c,.slice d0 d1 d2,.int .i64 l] 45)).alloc (.cells #[.int .i64 a,.string b,.int .i64 c,.slice d0 d1 d2,.int .i64 l] 45)).drew):=vJ.start (xs:=[.int .i64 a,.string b,.int .i64 c,.slice d0 d1 d2,.int .i64 l]) HwB.out hr hg hx rfl hNA hsE;obtain ⟨g0,g1,g2,g3,g4,g5,gf⟩:=zp (HwB.out.alloc (.cells #[.int .i64 a,.string b,.int .i64 c,.slice d0 d1 d2,.int .i64 l] 45)).blkN;obtain ⟨k0,k1,k2,k3,k4,k5,kf⟩:=zp HwB.out.blkN;have hwN:=HwB.out.hN;have hNM:N<wB.heap.size:=by omega
 clear hkE hx hrE Hw3;go_wp2_with fail
 go_cut [] (fun wx=>vJ r g N wB.heap.size wA3.heap.size w qe.2 qe.1 [.int .i64 a,.string b,.int .i64 c,.slice d0 d1 d2,.int .i64 l] t.line wx)
 case first =>
  go_region
  go_wp2_with fail
  go_meet
  exact HS.out
 case rest =>
  have HD:Hid (vJ r g N wB.heap.size wA3.heap.size w qe.2 qe.1 [.int .i64 a,.string b,.int .i64 c,.slice d0 d1 d2,.int .i64 l] t.line wc):=hcut;obtain ⟨M,hM⟩:∃M,M=wB.heap.size:=⟨_,rfl⟩;obtain ⟨B,hB⟩:∃B,B=wA3.heap.size:=⟨_,rfl⟩;rw [←hM,←hB] at HD;rw [←hB] at hNA;have ci:=zc0 r g qe.2 [61] wc HD.out.st.rd;rw [he] at ci;clear g0 g1 g2 g3 g4 g5 gf k0 k1 k2 k3 k4 k5 kf HS HwB hNM hsE hcut hB;rw [←hM];clear hM;go_wp2_with fail
  refine ci.mono ?_;clear ci;rintro e wD ⟨rfl,hbD⟩;have HDD:Hid (vJ r g N M B w qe.2 qe.1 [.int .i64 a,.string b,.int .i64 c,.slice d0 d1 d2,.int .i64 l] t.line wD):=HD.out.moved hr (zc.of hbD) (HD.out.st.rd.below hbD);clear hbD HD;have cm:=yD r g qe.2 [59] wD HDD.out.st.rd;go_wp2_with fail
  refine cm.mono ?_;clear cm;rintro e wE ⟨rfl,hkM,hrM⟩;have HDE:Hid (vJ r g N M B w (mustF [59] qe.2) qe.1 [.int .i64 a,.string b,.int .i64 c,.slice d0 d1 d2,.int .i64 l] t.line wE):=HDD.out.moved hr hkM hrM;have HwE:Hid (yE r g N w (mustF [59] qe.2) #[.int .i64 7,.string ⟨#[]⟩,.slice (some ⟨M+1,0,none⟩) 1 1,.slice none 0 0,.slice none 0 0,.int .i64 t.line] wE):=HDE.out.st;clear hkM hrM HDD;obtain ⟨n0,n1,n2,n3,n4,n5,nf⟩:=zp HwE.out.blkN;obtain ⟨x0,x1,x2,x3,x4,x5,xf⟩:=zp HwE.out.res;have hNe:¬ w.heap.size=N:=by have:=HwE.out.hN;omega
  have hCE:=HwE.out;obtain ⟨z0,z1,z2,z3,z4,z5,-⟩:=zp (zP hCE.res (.int .i64 7) (.string ⟨#[]⟩) (.slice (some ⟨M+1,0,none⟩) 1 1) (.slice none 0 0) (.slice none 0 0) (.int .i64 t.line));have HP:Hid (yd r g w _ (.returned (.agg #[.int .i64 7,.string ⟨#[]⟩,.slice (some ⟨M+1,0,none⟩) 1 1,.slice none 0 0,.slice none 0 0,.int .i64 t.line])) (Yu wE w.heap.size (.int .i64 7) (.string ⟨#[]⟩) (.slice (some ⟨M+1,0,none⟩) 1 1) (.slice none 0 0) (.slice none 0 0) (.int .i64 t.line))):=hCE.leave (B:=B) hr hg 7 [] t.line (HDE.out.row) (zD.nil _ _) (zD.nil _ _) (by omega)
  clear hCE;go_wp2
  exact bodyPost_ret (v:=.agg #[.int .i64 7,.string ⟨#[]⟩,.slice (some ⟨M+1,0,none⟩) 1 1,.slice none 0 0,.slice none 0 0,.int .i64 t.line]) (by simp [results,Tryz.results107,go_sem,z0,z1,z2,z3,z4,z5]) rfl HP.out
theorem zeR (r g F:Nat) (σ:RS) (w:World) (h:zz r g σ w) (hex:yp r g F) (h_let:zO [108,101,116] σ=false) (h_if:zO [105,102] σ=false) (h_while:zO [119,104,105,108,101] σ=false) (h_return:zO [114,101,116,117,114,110] σ=false) (qe:Ex × RS) (hqe:Z7 F 0 σ=some qe) (he:zO [61] qe.2=true) (hp:YQ qe.1=true) (q2:Ex × RS) (hq2:Z7 F 0 (false,qe.2.2.tail)=some q2) :
  Calls Tryz.prog 107 #[.pointer (some ⟨r,0,none⟩)] w (yd r g w (.mk 2 [] [qe.1,q2.1] [] [] (zx σ.2).line,mustF [59] q2.2)):=by
 obtain ⟨hr,hg⟩:=h.lt;obtain ⟨t,ht⟩:∃t,t=zx σ.2:=⟨_,rfl⟩;have ct:=xO r g σ (w.alloc YR) (h.alloc _);rw [←ht] at ct ⊢;have HH:Hid (zz r g σ w):=h;have HEX:Hid (yp r g F):=hex;have hfl:=Z1;clear ht h hex
 go_enter Tryz.func107,Tryz.ntmps107
 go_wp2_with fail
 refine ct.mono ?_;clear ct;rintro e w1 ⟨rfl,hb1⟩;have hs1:w.heap.size+1≤w1.heap.size:=by have:=hb1.size;simpa using this
 have p1:w1.heap[w.heap.size]?=some YR:=(hb1.block _ (by simp)).trans (World.alloc_heap_new w _)
 have HA:Hid (yE r g w1.heap.size w σ #[.int .i64 0,.string ⟨#[]⟩,.slice none 0 0,.slice none 0 0,.slice none 0 0,.int .i64 t.line] (w1.alloc (.cells #[.int .i64 0,.string ⟨#[]⟩,.slice none 0 0,.slice none 0 0,.slice none 0 0,.int .i64 t.line] 108))):=⟨World.alloc_heap_new _ _,(Below.heap_alloc _ _ _ (by omega)).trans p1,((HH.out.alloc _).below hb1).alloc _,(((zc.refl r w).alloc _).trans (zc.of hb1)).alloc _,by omega⟩
 have hwn:w.heap.size<w1.heap.size:=by omega
 simp only [Xc];clear hb1 HH p1 hs1;have cs:=Zd r g σ [108,101,116] _ HA.out.rd;rw [h_let,zW h_let] at cs;go_wp2_with fail
 refine cs.mono ?_;clear cs;rintro e wA0 ⟨rfl,hk1,hr1⟩;have hC:=HA.out.moved hr hk1 hr1;obtain ⟨N,hN⟩:∃N,N=w1.heap.size:=⟨_,rfl⟩;rw [←hN] at hC hwn ⊢;have Hw0:Hid (yE r g N w σ #[.int .i64 0,.string ⟨#[]⟩,.slice none 0 0,.slice none 0 0,.slice none 0 0,.int .i64 t.line] wA0):=hC;clear hN hC hk1 hr1 HA;have cs:=Zd r g σ [105,102] _ Hw0.out.rd;rw [h_if,zW h_if] at cs;go_wp2_with fail
 refine cs.mono ?_;clear cs;rintro e wA1 ⟨rfl,hk1,hr1⟩;have Hw1:Hid (yE r g N w σ #[.int .i64 0,.string ⟨#[]⟩,.slice none 0 0,.slice none 0 0,.slice none 0 0,.int .i64 t.line] wA1):=Hw0.out.moved hr hk1 hr1;clear hk1 hr1 Hw0;have cs:=Zd r g σ [119,104,105,108,101] _ Hw1.out.rd;rw [h_while,zW h_while] at cs;go_wp2_with fail
 refine cs.mono ?_;clear cs;rintro e wA2 ⟨rfl,hk1,hr1⟩;have Hw2:Hid (yE r g N w σ #[.int .i64 0,.string ⟨#[]⟩,.slice none 0 0,.slice none 0 0,.slice none 0 0,.int .i64 t.line] wA2):=Hw1.out.moved hr hk1 hr1;clear hk1 hr1 Hw1;have cs:=Zd r g σ [114,101,116,117,114,110] _ Hw2.out.rd;rw [h_return,zW h_return] at cs;go_wp2_with fail
 refine cs.mono ?_;clear cs;rintro e wA3 ⟨rfl,hk1,hr1⟩;have Hw3:Hid (yE r g N w σ #[.int .i64 0,.string ⟨#[]⟩,.slice none 0 0,.slice none 0 0,.slice none 0 0,.int .i64 t.line] wA3):=Hw2.out.moved hr hk1 hr1;clear hk1 hr1 Hw2;clear h_let h_if h_while h_return;have ce:Calls Tryz.prog 139 #[.pointer (some ⟨r,0,none⟩),.int .i64 0] wA3 (Zo r g wA3 qe):=HEX.out F (Nat.le_refl _) 0 _ qe wA3 (by omega) hqe Hw3.out.rd
 clear hqe;go_wp2_with fail
 refine ce.mono ?_;clear ce;rintro e wB ⟨hkE,v,rfl,hx,hrE⟩;obtain ⟨a,b,c,d0,d1,d2,l,rfl⟩:=hx.agg;have HAK:Hid (a=(qe.1.kind:Int)):=hx.kind_eq;have hNA:N<wA3.heap.size:=(Array.getElem?_eq_some_iff.1 Hw3.out.blkN).1;have hsE:=hkE.size;have HwB:Hid (yE r g N w qe.2 #[.int .i64 0,.string ⟨#[]⟩,.slice none 0 0,.slice none 0 0,.slice none 0 0,.int .i64 t.line] wB):=Hw3.out.moved hr hkE hrE;have HS:Hid (vJ r g N wB.heap.size wA3.heap.size w qe.2 qe.1 [.int .i64 a,.string b,.int .i64 c,.slice d0 d1 d2,.int .i64 l] t.line ((((wB.setCell ⟨N,0,none⟩ (.int .i64 7)).setCell ⟨N,2,none⟩ (.slice (some ⟨wB.heap.size+1,0,none⟩) 1 1)).alloc (.cells #[.int .i64 a,.string b,.int .i64 c,.slice d0 d1 d2,.int .i64 l] 45)).alloc (.cells #[.int .i64 a,.string b,.int .i64 c,.slice d0 d1 d2,.int .i64 l] 45)).drew):=vJ.start (xs:=[.int .i64 a,.string b,.int .i64 c,.slice d0 d1 d2,.int .i64 l]) HwB.out hr hg hx rfl hNA hsE;obtain ⟨g0,g1,g2,g3,g4,g5,gf⟩:=zp (HwB.out.alloc (.cells #[.int .i64 a,.string b,.int .i64 c,.slice d0 d1 d2,.int .i64 l] 45)).blkN;obtain ⟨k0,k1,k2,k3,k4,k5,kf⟩:=zp HwB.out.blkN;have hwN:=HwB.out.hN;have hNM:N<wB.heap.size:=by omega
 clear hkE hx hrE Hw3;go_wp2_with fail
 go_cut [] (fun wx=>vJ r g N wB.heap.size wA3.heap.size w qe.2 qe.1 [.int .i64 a,.string b,.int .i64 c,.slice d0 d1 d2,.int .i64 l] t.line wx)
 case first =>
  go_region
  go_wp2_with fail
  go_meet
  exact HS.out
 case rest =>
  have HD:Hid (vJ r g N wB.heap.size wA3.heap.size w qe.2 qe.1 [.int .i64 a,.string b,.int .i64 c,.slice d0 d1 d2,.int .i64 l] t.line wc):=hcut;obtain ⟨M,hM⟩:∃M,M=wB.heap.size:=⟨_,rfl⟩;obtain ⟨B,hB⟩:∃B,B=wA3.heap.size:=⟨_,rfl⟩;rw [←hM,←hB] at HD;rw [←hB] at hNA;have ci:=zc0 r g qe.2 [61] wc HD.out.st.rd;rw [he] at ci;clear g0 g1 g2 g3 g4 g5 gf k0 k1 k2 k3 k4 k5 kf HS HwB hNM hsE hcut hB;rw [←hM];clear hM;go_wp2_with fail
  refine ci.mono ?_;clear ci;rintro e wD ⟨rfl,hbD⟩;have HDD:Hid (vJ r g N M B w qe.2 qe.1 [.int .i64 a,.string b,.int .i64 c,.slice d0 d1 d2,.int .i64 l] t.line wD):=HD.out.moved hr (zc.of hbD) (HD.out.st.rd.below hbD);clear hbD HD
  have h3:a=4∨a=8∨a=9:=by
   have h9:=HAK.out
   unfold YQ at hp
   simp only [Bool.or_eq_true,beq_iff_eq] at hp;omega
  obtain ⟨m0,m1,m2,m3,m4⟩:=HDD.out.cells;have ck:=Zd r g qe.2 [61] wD HDD.out.st.rd;rw [he,ZD he] at ck;clear HAK hp;have HQ2:Hid (Z7 F 0 (false,qe.2.2.tail)=some q2):=hq2;clear hq2;rcases h3 with rfl | rfl | rfl
  ·go_wp2_with fail
   refine ck.mono ?_;clear ck m0 m1 m2 m3 m4;rintro e wE ⟨rfl,hkM,hrM⟩;have HDE:Hid (vJ r g N M B w (false,qe.2.2.tail) qe.1 [.int .i64 4,.string b,.int .i64 c,.slice d0 d1 d2,.int .i64 l] t.line wE):=HDD.out.moved hr hkM hrM;have ce:=HEX.out F (Nat.le_refl _) 0 _ q2 wE.drew (by omega) HQ2.out HDE.out.drew.st.rd
   have CE:Hid (Calls Tryz.prog 139 #[.pointer (some ⟨r,0,none⟩),.int .i64 0] wE.drew (Zo r g wE.drew q2)):=ce;clear hkM hrM HDD HQ2 ce;obtain ⟨n0,n1,n2,n3,n4,n5,nf⟩:=zp HDE.out.st.blkN
   haveI hne:Nonempty (y8 (Yl M 4 b c d0 d1 d2 l)):=⟨⟨wE,HDE.out.cells⟩⟩
   have X0:∀c1:y8 (Yl M 4 b c d0 d1 d2 l),c1.1.cell? ⟨M,0,none⟩=some (.int .i64 4):=fun c1=>c1.2.1
   have X1:∀c1:y8 (Yl M 4 b c d0 d1 d2 l),c1.1.cell? ⟨M,1,none⟩=some (.string b):=fun c1=>c1.2.2.1
   have X2:∀c1:y8 (Yl M 4 b c d0 d1 d2 l),c1.1.cell? ⟨M,2,none⟩=some (.int .i64 c):=fun c1=>c1.2.2.2.1
   have X3:∀c1:y8 (Yl M 4 b c d0 d1 d2 l),c1.1.cell? ⟨M,3,none⟩=some (.slice d0 d1 d2):=fun c1=>c1.2.2.2.2.1
   have X4:∀c1:y8 (Yl M 4 b c d0 d1 d2 l),c1.1.cell? ⟨M,4,none⟩=some (.int .i64 l):=fun c1=>c1.2.2.2.2.2
   go_wp2_with fail
   refine YK (n:=8) (S:=fun w'=>∃c1:y8 (Yl M 4 b c d0 d1 d2 l),w'=c1.1) (by kernel_rfl) rfl rfl ?_
   refine Zz (fuel:=5) (fuel':=8) (idx:=[0,1,4]) (by decide +kernel) rfl rfl rfl (fun _ _ _ _ _ h=>h) ⟨⟨wE.drew,HDE.out.drew.cells⟩,rfl⟩ ?_
   show wpQuiet _ _ _ _ [_,_,_] _
   iterate 3 (go_big_quiet_step (fail))
   refine wpQuiet_nil ?_;refine zG (fuel:=4) (fuel':=5) (i:=2) rfl (by decide +kernel) rfl rfl (by rfl) ?_
   intro K hK;go_simp;refine CE.out.mono ?_;rintro e w7 ⟨hk7,v,rfl,hx7,hr7⟩;obtain ⟨a2,b2,c2,e0,e1,e2,l2,rfl⟩:=hx7.agg;have HD7:Hid (vJ r g N M B w q2.2 qe.1 [.int .i64 4,.string b,.int .i64 c,.slice d0 d1 d2,.int .i64 l] t.line w7):=HDE.out.drew.moved hr hk7 hr7
   (try go_simp)
   refine hK.out _ _ ⟨⟨w7,HD7.out.cells⟩,rfl⟩ ?_;clear hK K;obtain ⟨hF1,hF2⟩:=HD7.out.two hr hg HDE.out.drew (xs:=[.int .i64 4,.string b,.int .i64 c,.slice d0 d1 d2,.int .i64 l]) (ys:=[.int .i64 a2,.string b2,.int .i64 c2,.slice e0 e1 e2,.int .i64 l2]) hx7 rfl rfl;have HF:Hid _:=hF1;have HROW:Hid _:=hF2;have hB7:=(Array.getElem?_eq_some_iff.1 HD7.out.box).1;have hN7:=(Array.getElem?_eq_some_iff.1 HD7.out.st.blkN).1;have hMN:M≠N:=by have:=HD7.out.hN;have:=HD7.out.hM;omega
   obtain ⟨j0,j1,j2,j3,j4,j5,jf⟩:=zp HD7.out.st.blkN;have HBX:Hid (Yl M 4 b c d0 d1 d2 l w7):=HD7.out.cells;clear hF1 hF2 hk7 hx7 hr7 n0 n1 n2 n3 n4 n5 nf;refine YV (fuel:=3) (fuel':=4) (i:=3) (k:=5) rfl rfl (by decide +kernel) rfl rfl rfl (by rfl) (by rfl) ?_ ?_
   ·intro K hK
    go_simp;refine hK.out _ _ ⟨⟨_,HBX.out.alloc _⟩,rfl⟩ ?_;clear hK K;refine zG (fuel:=2) (fuel':=3) (i:=5) rfl (by decide +kernel) rfl rfl (by rfl) ?_
    intro K hK;go_simp;refine hK.out _ _ ⟨⟨_,(HBX.out.set hMN _ _).alloc _⟩,rfl⟩ ?_;clear hK K;refine Zz (fuel:=1) (fuel':=2) (idx:=[6]) (by decide +kernel) rfl rfl rfl (fun _ _ _ _ _ h=>h) ⟨⟨_,(HBX.out.set hMN _ _).alloc _⟩,rfl⟩ ?_
    show wpQuiet _ _ _ _ [_] _
    iterate 1 (go_big_quiet_step (fail))
    refine wpQuiet_nil ?_;refine zG (fuel:=0) (fuel':=1) (i:=7) rfl (by decide +kernel) rfl rfl (by rfl) ?_
    intro K hK;go_simp;refine hK.out _ _ ⟨⟨_,((HBX.out.set hMN _ _).set hMN _ _).alloc _⟩,rfl⟩ ?_;clear hK K;refine ym (by decide +kernel) ?_
    have cm:=yD r g q2.2 [59] _ HF.out.rd;go_wp2_with fail
    refine cm.mono ?_;clear cm X0 X1 X2 X3 X4 hne j0 j1 j2 j3 j4 j5 jf;rintro e wF ⟨rfl,hkM,hrM⟩;have HwF:Hid (yE r g N w (mustF [59] q2.2) #[.int .i64 2,.string ⟨#[]⟩,.slice (some ⟨w7.heap.size,0,none⟩) 2 2,.slice none 0 0,.slice none 0 0,.int .i64 t.line] wF):=HF.out.moved hr hkM hrM;have HROWF:Hid (zv (fun k=>B≤k) wF [qe.1,q2.1] (.slice (some ⟨w7.heap.size,0,none⟩) 2 2)):=zv.keptR (S:=fun k=>B≤k) HROW.out hkM fun k hk=>by omega
    clear hkM hrM HF HROW HD7 HDE HBX CE;obtain ⟨n0,n1,n2,n3,n4,n5,nf⟩:=zp HwF.out.blkN;obtain ⟨x0,x1,x2,x3,x4,x5,xf⟩:=zp HwF.out.res;have hNe:¬ w.heap.size=N:=by have:=HwF.out.hN;omega
    have hCE:=HwF.out;obtain ⟨z0,z1,z2,z3,z4,z5,-⟩:=zp (zP hCE.res (.int .i64 2) (.string ⟨#[]⟩) (.slice (some ⟨w7.heap.size,0,none⟩) 2 2) (.slice none 0 0) (.slice none 0 0) (.int .i64 t.line));have HP:Hid (yd r g w _ (.returned (.agg #[.int .i64 2,.string ⟨#[]⟩,.slice (some ⟨w7.heap.size,0,none⟩) 2 2,.slice none 0 0,.slice none 0 0,.int .i64 t.line])) (Yu wF w.heap.size (.int .i64 2) (.string ⟨#[]⟩) (.slice (some ⟨w7.heap.size,0,none⟩) 2 2) (.slice none 0 0) (.slice none 0 0) (.int .i64 t.line))):=hCE.leave (B:=B) hr hg 2 [] t.line (HROWF.out) (zD.nil _ _) (zD.nil _ _) (by omega)
    clear hCE;go_wp2
    exact bodyPost_ret (v:=.agg #[.int .i64 2,.string ⟨#[]⟩,.slice (some ⟨w7.heap.size,0,none⟩) 2 2,.slice none 0 0,.slice none 0 0,.int .i64 t.line]) (by simp [results,Tryz.results107,go_sem,z0,z1,z2,z3,z4,z5]) rfl HP.out
   ·intro K hK
    go_simp;refine hK.out _ _ ⟨⟨_,HBX.out.set hMN _ _⟩,rfl⟩ ?_;clear hK K;refine zG (fuel:=2) (fuel':=3) (i:=3) rfl (by decide +kernel) rfl rfl (by rfl) ?_
    intro K hK;go_simp;refine hK.out _ _ ⟨⟨_,(HBX.out.set hMN _ _).alloc _⟩,rfl⟩ ?_;clear hK K;refine Zz (fuel:=1) (fuel':=2) (idx:=[6]) (by decide +kernel) rfl rfl rfl (fun _ _ _ _ _ h=>h) ⟨⟨_,(HBX.out.set hMN _ _).alloc _⟩,rfl⟩ ?_
    show wpQuiet _ _ _ _ [_] _
    iterate 1 (go_big_quiet_step (fail))
    refine wpQuiet_nil ?_;refine zG (fuel:=0) (fuel':=1) (i:=7) rfl (by decide +kernel) rfl rfl (by rfl) ?_
    intro K hK;go_simp;refine hK.out _ _ ⟨⟨_,((HBX.out.set hMN _ _).set hMN _ _).alloc _⟩,rfl⟩ ?_;clear hK K;refine ym (by decide +kernel) ?_
    have cm:=yD r g q2.2 [59] _ HF.out.rd;go_wp2_with fail
    refine cm.mono ?_;clear cm X0 X1 X2 X3 X4 hne j0 j1 j2 j3 j4 j5 jf;rintro e wF ⟨rfl,hkM,hrM⟩;have HwF:Hid (yE r g N w (mustF [59] q2.2) #[.int .i64 2,.string ⟨#[]⟩,.slice (some ⟨w7.heap.size,0,none⟩) 2 2,.slice none 0 0,.slice none 0 0,.int .i64 t.line] wF):=HF.out.moved hr hkM hrM;have HROWF:Hid (zv (fun k=>B≤k) wF [qe.1,q2.1] (.slice (some ⟨w7.heap.size,0,none⟩) 2 2)):=zv.keptR (S:=fun k=>B≤k) HROW.out hkM fun k hk=>by omega
    clear hkM hrM HF HROW HD7 HDE HBX CE;obtain ⟨n0,n1,n2,n3,n4,n5,nf⟩:=zp HwF.out.blkN;obtain ⟨x0,x1,x2,x3,x4,x5,xf⟩:=zp HwF.out.res;have hNe:¬ w.heap.size=N:=by have:=HwF.out.hN;omega
    have hCE:=HwF.out;obtain ⟨z0,z1,z2,z3,z4,z5,-⟩:=zp (zP hCE.res (.int .i64 2) (.string ⟨#[]⟩) (.slice (some ⟨w7.heap.size,0,none⟩) 2 2) (.slice none 0 0) (.slice none 0 0) (.int .i64 t.line));have HP:Hid (yd r g w _ (.returned (.agg #[.int .i64 2,.string ⟨#[]⟩,.slice (some ⟨w7.heap.size,0,none⟩) 2 2,.slice none 0 0,.slice none 0 0,.int .i64 t.line])) (Yu wF w.heap.size (.int .i64 2) (.string ⟨#[]⟩) (.slice (some ⟨w7.heap.size,0,none⟩) 2 2) (.slice none 0 0) (.slice none 0 0) (.int .i64 t.line))):=hCE.leave (B:=B) hr hg 2 [] t.line (HROWF.out) (zD.nil _ _) (zD.nil _ _) (by omega)
    clear hCE;go_wp2
    exact bodyPost_ret (v:=.agg #[.int .i64 2,.string ⟨#[]⟩,.slice (some ⟨w7.heap.size,0,none⟩) 2 2,.slice none 0 0,.slice none 0 0,.int .i64 t.line]) (by simp [results,Tryz.results107,go_sem,z0,z1,z2,z3,z4,z5]) rfl HP.out
  ·go_wp2_with fail
   refine ck.mono ?_;clear ck m0 m1 m2 m3 m4;rintro e wE ⟨rfl,hkM,hrM⟩;have HDE:Hid (vJ r g N M B w (false,qe.2.2.tail) qe.1 [.int .i64 8,.string b,.int .i64 c,.slice d0 d1 d2,.int .i64 l] t.line wE):=HDD.out.moved hr hkM hrM;have ce:=HEX.out F (Nat.le_refl _) 0 _ q2 wE.drew (by omega) HQ2.out HDE.out.drew.st.rd
   have CE:Hid (Calls Tryz.prog 139 #[.pointer (some ⟨r,0,none⟩),.int .i64 0] wE.drew (Zo r g wE.drew q2)):=ce;clear hkM hrM HDD HQ2 ce;obtain ⟨n0,n1,n2,n3,n4,n5,nf⟩:=zp HDE.out.st.blkN
   haveI hne:Nonempty (y8 (Yl M 8 b c d0 d1 d2 l)):=⟨⟨wE,HDE.out.cells⟩⟩
   have X0:∀c1:y8 (Yl M 8 b c d0 d1 d2 l),c1.1.cell? ⟨M,0,none⟩=some (.int .i64 8):=fun c1=>c1.2.1
   have X1:∀c1:y8 (Yl M 8 b c d0 d1 d2 l),c1.1.cell? ⟨M,1,none⟩=some (.string b):=fun c1=>c1.2.2.1
   have X2:∀c1:y8 (Yl M 8 b c d0 d1 d2 l),c1.1.cell? ⟨M,2,none⟩=some (.int .i64 c):=fun c1=>c1.2.2.2.1
   have X3:∀c1:y8 (Yl M 8 b c d0 d1 d2 l),c1.1.cell? ⟨M,3,none⟩=some (.slice d0 d1 d2):=fun c1=>c1.2.2.2.2.1
   have X4:∀c1:y8 (Yl M 8 b c d0 d1 d2 l),c1.1.cell? ⟨M,4,none⟩=some (.int .i64 l):=fun c1=>c1.2.2.2.2.2
   go_wp2_with fail
   refine YK (n:=8) (S:=fun w'=>∃c1:y8 (Yl M 8 b c d0 d1 d2 l),w'=c1.1) (by kernel_rfl) rfl rfl ?_
   refine Zz (fuel:=5) (fuel':=8) (idx:=[0,1,4]) (by decide +kernel) rfl rfl rfl (fun _ _ _ _ _ h=>h) ⟨⟨wE.drew,HDE.out.drew.cells⟩,rfl⟩ ?_
   show wpQuiet _ _ _ _ [_,_,_] _
   iterate 3 (go_big_quiet_step (fail))
   refine wpQuiet_nil ?_;refine zG (fuel:=4) (fuel':=5) (i:=2) rfl (by decide +kernel) rfl rfl (by rfl) ?_
   intro K hK;go_simp;refine CE.out.mono ?_;rintro e w7 ⟨hk7,v,rfl,hx7,hr7⟩;obtain ⟨a2,b2,c2,e0,e1,e2,l2,rfl⟩:=hx7.agg;have HD7:Hid (vJ r g N M B w q2.2 qe.1 [.int .i64 8,.string b,.int .i64 c,.slice d0 d1 d2,.int .i64 l] t.line w7):=HDE.out.drew.moved hr hk7 hr7
   (try go_simp)
   refine hK.out _ _ ⟨⟨w7,HD7.out.cells⟩,rfl⟩ ?_;clear hK K;obtain ⟨hF1,hF2⟩:=HD7.out.two hr hg HDE.out.drew (xs:=[.int .i64 8,.string b,.int .i64 c,.slice d0 d1 d2,.int .i64 l]) (ys:=[.int .i64 a2,.string b2,.int .i64 c2,.slice e0 e1 e2,.int .i64 l2]) hx7 rfl rfl;have HF:Hid _:=hF1;have HROW:Hid _:=hF2;have hB7:=(Array.getElem?_eq_some_iff.1 HD7.out.box).1;have hN7:=(Array.getElem?_eq_some_iff.1 HD7.out.st.blkN).1;have hMN:M≠N:=by have:=HD7.out.hN;have:=HD7.out.hM;omega
   obtain ⟨j0,j1,j2,j3,j4,j5,jf⟩:=zp HD7.out.st.blkN;have HBX:Hid (Yl M 8 b c d0 d1 d2 l w7):=HD7.out.cells;clear hF1 hF2 hk7 hx7 hr7 n0 n1 n2 n3 n4 n5 nf;refine YV (fuel:=3) (fuel':=4) (i:=3) (k:=5) rfl rfl (by decide +kernel) rfl rfl rfl (by rfl) (by rfl) ?_ ?_
   ·intro K hK
    go_simp;refine hK.out _ _ ⟨⟨_,HBX.out.alloc _⟩,rfl⟩ ?_;clear hK K;refine zG (fuel:=2) (fuel':=3) (i:=5) rfl (by decide +kernel) rfl rfl (by rfl) ?_
    intro K hK;go_simp;refine hK.out _ _ ⟨⟨_,(HBX.out.set hMN _ _).alloc _⟩,rfl⟩ ?_;clear hK K;refine Zz (fuel:=1) (fuel':=2) (idx:=[6]) (by decide +kernel) rfl rfl rfl (fun _ _ _ _ _ h=>h) ⟨⟨_,(HBX.out.set hMN _ _).alloc _⟩,rfl⟩ ?_
    show wpQuiet _ _ _ _ [_] _
    iterate 1 (go_big_quiet_step (fail))
    refine wpQuiet_nil ?_;refine zG (fuel:=0) (fuel':=1) (i:=7) rfl (by decide +kernel) rfl rfl (by rfl) ?_
    intro K hK;go_simp;refine hK.out _ _ ⟨⟨_,((HBX.out.set hMN _ _).set hMN _ _).alloc _⟩,rfl⟩ ?_;clear hK K;refine ym (by decide +kernel) ?_
    have cm:=yD r g q2.2 [59] _ HF.out.rd;go_wp2_with fail
    refine cm.mono ?_;clear cm X0 X1 X2 X3 X4 hne j0 j1 j2 j3 j4 j5 jf;rintro e wF ⟨rfl,hkM,hrM⟩;have HwF:Hid (yE r g N w (mustF [59] q2.2) #[.int .i64 2,.string ⟨#[]⟩,.slice (some ⟨w7.heap.size,0,none⟩) 2 2,.slice none 0 0,.slice none 0 0,.int .i64 t.line] wF):=HF.out.moved hr hkM hrM;have HROWF:Hid (zv (fun k=>B≤k) wF [qe.1,q2.1] (.slice (some ⟨w7.heap.size,0,none⟩) 2 2)):=zv.keptR (S:=fun k=>B≤k) HROW.out hkM fun k hk=>by omega
    clear hkM hrM HF HROW HD7 HDE HBX CE;obtain ⟨n0,n1,n2,n3,n4,n5,nf⟩:=zp HwF.out.blkN;obtain ⟨x0,x1,x2,x3,x4,x5,xf⟩:=zp HwF.out.res;have hNe:¬ w.heap.size=N:=by have:=HwF.out.hN;omega
    have hCE:=HwF.out;obtain ⟨z0,z1,z2,z3,z4,z5,-⟩:=zp (zP hCE.res (.int .i64 2) (.string ⟨#[]⟩) (.slice (some ⟨w7.heap.size,0,none⟩) 2 2) (.slice none 0 0) (.slice none 0 0) (.int .i64 t.line));have HP:Hid (yd r g w _ (.returned (.agg #[.int .i64 2,.string ⟨#[]⟩,.slice (some ⟨w7.heap.size,0,none⟩) 2 2,.slice none 0 0,.slice none 0 0,.int .i64 t.line])) (Yu wF w.heap.size (.int .i64 2) (.string ⟨#[]⟩) (.slice (some ⟨w7.heap.size,0,none⟩) 2 2) (.slice none 0 0) (.slice none 0 0) (.int .i64 t.line))):=hCE.leave (B:=B) hr hg 2 [] t.line (HROWF.out) (zD.nil _ _) (zD.nil _ _) (by omega)
    clear hCE;go_wp2
    exact bodyPost_ret (v:=.agg #[.int .i64 2,.string ⟨#[]⟩,.slice (some ⟨w7.heap.size,0,none⟩) 2 2,.slice none 0 0,.slice none 0 0,.int .i64 t.line]) (by simp [results,Tryz.results107,go_sem,z0,z1,z2,z3,z4,z5]) rfl HP.out
   ·intro K hK
    go_simp;refine hK.out _ _ ⟨⟨_,HBX.out.set hMN _ _⟩,rfl⟩ ?_;clear hK K;refine zG (fuel:=2) (fuel':=3) (i:=3) rfl (by decide +kernel) rfl rfl (by rfl) ?_
    intro K hK;go_simp;refine hK.out _ _ ⟨⟨_,(HBX.out.set hMN _ _).alloc _⟩,rfl⟩ ?_;clear hK K;refine Zz (fuel:=1) (fuel':=2) (idx:=[6]) (by decide +kernel) rfl rfl rfl (fun _ _ _ _ _ h=>h) ⟨⟨_,(HBX.out.set hMN _ _).alloc _⟩,rfl⟩ ?_
    show wpQuiet _ _ _ _ [_] _
    iterate 1 (go_big_quiet_step (fail))
    refine wpQuiet_nil ?_;refine zG (fuel:=0) (fuel':=1) (i:=7) rfl (by decide +kernel) rfl rfl (by rfl) ?_
    intro K hK;go_simp;refine hK.out _ _ ⟨⟨_,((HBX.out.set hMN _ _).set hMN _ _).alloc _⟩,rfl⟩ ?_;clear hK K;refine ym (by decide +kernel) ?_
    have cm:=yD r g q2.2 [59] _ HF.out.rd;go_wp2_with fail
    refine cm.mono ?_;clear cm X0 X1 X2 X3 X4 hne j0 j1 j2 j3 j4 j5 jf;rintro e wF ⟨rfl,hkM,hrM⟩;have HwF:Hid (yE r g N w (mustF [59] q2.2) #[.int .i64 2,.string ⟨#[]⟩,.slice (some ⟨w7.heap.size,0,none⟩) 2 2,.slice none 0 0,.slice none 0 0,.int .i64 t.line] wF):=HF.out.moved hr hkM hrM;have HROWF:Hid (zv (fun k=>B≤k) wF [qe.1,q2.1] (.slice (some ⟨w7.heap.size,0,none⟩) 2 2)):=zv.keptR (S:=fun k=>B≤k) HROW.out hkM fun k hk=>by omega
    clear hkM hrM HF HROW HD7 HDE HBX CE;obtain ⟨n0,n1,n2,n3,n4,n5,nf⟩:=zp HwF.out.blkN;obtain ⟨x0,x1,x2,x3,x4,x5,xf⟩:=zp HwF.out.res;have hNe:¬ w.heap.size=N:=by have:=HwF.out.hN;omega
    have hCE:=HwF.out;obtain ⟨z0,z1,z2,z3,z4,z5,-⟩:=zp (zP hCE.res (.int .i64 2) (.string ⟨#[]⟩) (.slice (some ⟨w7.heap.size,0,none⟩) 2 2) (.slice none 0 0) (.slice none 0 0) (.int .i64 t.line));have HP:Hid (yd r g w _ (.returned (.agg #[.int .i64 2,.string ⟨#[]⟩,.slice (some ⟨w7.heap.size,0,none⟩) 2 2,.slice none 0 0,.slice none 0 0,.int .i64 t.line])) (Yu wF w.heap.size (.int .i64 2) (.string ⟨#[]⟩) (.slice (some ⟨w7.heap.size,0,none⟩) 2 2) (.slice none 0 0) (.slice none 0 0) (.int .i64 t.line))):=hCE.leave (B:=B) hr hg 2 [] t.line (HROWF.out) (zD.nil _ _) (zD.nil _ _) (by omega)
    clear hCE;go_wp2
    exact bodyPost_ret (v:=.agg #[.int .i64 2,.string ⟨#[]⟩,.slice (some ⟨w7.heap.size,0,none⟩) 2 2,.slice none 0 0,.slice none 0 0,.int .i64 t.line]) (by simp [results,Tryz.results107,go_sem,z0,z1,z2,z3,z4,z5]) rfl HP.out
  ·go_wp2_with fail
   refine ck.mono ?_;clear ck m0 m1 m2 m3 m4;rintro e wE ⟨rfl,hkM,hrM⟩;have HDE:Hid (vJ r g N M B w (false,qe.2.2.tail) qe.1 [.int .i64 9,.string b,.int .i64 c,.slice d0 d1 d2,.int .i64 l] t.line wE):=HDD.out.moved hr hkM hrM;have ce:=HEX.out F (Nat.le_refl _) 0 _ q2 wE.drew (by omega) HQ2.out HDE.out.drew.st.rd
   have CE:Hid (Calls Tryz.prog 139 #[.pointer (some ⟨r,0,none⟩),.int .i64 0] wE.drew (Zo r g wE.drew q2)):=ce;clear hkM hrM HDD HQ2 ce;obtain ⟨n0,n1,n2,n3,n4,n5,nf⟩:=zp HDE.out.st.blkN
   haveI hne:Nonempty (y8 (Yl M 9 b c d0 d1 d2 l)):=⟨⟨wE,HDE.out.cells⟩⟩
   have X0:∀c1:y8 (Yl M 9 b c d0 d1 d2 l),c1.1.cell? ⟨M,0,none⟩=some (.int .i64 9):=fun c1=>c1.2.1
   have X1:∀c1:y8 (Yl M 9 b c d0 d1 d2 l),c1.1.cell? ⟨M,1,none⟩=some (.string b):=fun c1=>c1.2.2.1
   have X2:∀c1:y8 (Yl M 9 b c d0 d1 d2 l),c1.1.cell? ⟨M,2,none⟩=some (.int .i64 c):=fun c1=>c1.2.2.2.1
   have X3:∀c1:y8 (Yl M 9 b c d0 d1 d2 l),c1.1.cell? ⟨M,3,none⟩=some (.slice d0 d1 d2):=fun c1=>c1.2.2.2.2.1
   have X4:∀c1:y8 (Yl M 9 b c d0 d1 d2 l),c1.1.cell? ⟨M,4,none⟩=some (.int .i64 l):=fun c1=>c1.2.2.2.2.2
   go_wp2_with fail
   refine YK (n:=8) (S:=fun w'=>∃c1:y8 (Yl M 9 b c d0 d1 d2 l),w'=c1.1) (by kernel_rfl) rfl rfl ?_
   refine Zz (fuel:=5) (fuel':=8) (idx:=[0,1,4]) (by decide +kernel) rfl rfl rfl (fun _ _ _ _ _ h=>h) ⟨⟨wE.drew,HDE.out.drew.cells⟩,rfl⟩ ?_
   show wpQuiet _ _ _ _ [_,_,_] _
   iterate 3 (go_big_quiet_step (fail))
   refine wpQuiet_nil ?_;refine zG (fuel:=4) (fuel':=5) (i:=2) rfl (by decide +kernel) rfl rfl (by rfl) ?_
   intro K hK;go_simp;refine CE.out.mono ?_;rintro e w7 ⟨hk7,v,rfl,hx7,hr7⟩;obtain ⟨a2,b2,c2,e0,e1,e2,l2,rfl⟩:=hx7.agg;have HD7:Hid (vJ r g N M B w q2.2 qe.1 [.int .i64 9,.string b,.int .i64 c,.slice d0 d1 d2,.int .i64 l] t.line w7):=HDE.out.drew.moved hr hk7 hr7
   (try go_simp)
   refine hK.out _ _ ⟨⟨w7,HD7.out.cells⟩,rfl⟩ ?_;clear hK K;obtain ⟨hF1,hF2⟩:=HD7.out.two hr hg HDE.out.drew (xs:=[.int .i64 9,.string b,.int .i64 c,.slice d0 d1 d2,.int .i64 l]) (ys:=[.int .i64 a2,.string b2,.int .i64 c2,.slice e0 e1 e2,.int .i64 l2]) hx7 rfl rfl;have HF:Hid _:=hF1;have HROW:Hid _:=hF2;have hB7:=(Array.getElem?_eq_some_iff.1 HD7.out.box).1;have hN7:=(Array.getElem?_eq_some_iff.1 HD7.out.st.blkN).1;have hMN:M≠N:=by have:=HD7.out.hN;have:=HD7.out.hM;omega
   obtain ⟨j0,j1,j2,j3,j4,j5,jf⟩:=zp HD7.out.st.blkN;have HBX:Hid (Yl M 9 b c d0 d1 d2 l w7):=HD7.out.cells;clear hF1 hF2 hk7 hx7 hr7 n0 n1 n2 n3 n4 n5 nf;refine YV (fuel:=3) (fuel':=4) (i:=3) (k:=5) rfl rfl (by decide +kernel) rfl rfl rfl (by rfl) (by rfl) ?_ ?_
   ·intro K hK
    go_simp;refine hK.out _ _ ⟨⟨_,HBX.out.alloc _⟩,rfl⟩ ?_;clear hK K;refine zG (fuel:=2) (fuel':=3) (i:=5) rfl (by decide +kernel) rfl rfl (by rfl) ?_
    intro K hK;go_simp;refine hK.out _ _ ⟨⟨_,(HBX.out.set hMN _ _).alloc _⟩,rfl⟩ ?_;clear hK K;refine Zz (fuel:=1) (fuel':=2) (idx:=[6]) (by decide +kernel) rfl rfl rfl (fun _ _ _ _ _ h=>h) ⟨⟨_,(HBX.out.set hMN _ _).alloc _⟩,rfl⟩ ?_
    show wpQuiet _ _ _ _ [_] _
    iterate 1 (go_big_quiet_step (fail))
    refine wpQuiet_nil ?_;refine zG (fuel:=0) (fuel':=1) (i:=7) rfl (by decide +kernel) rfl rfl (by rfl) ?_
    intro K hK;go_simp;refine hK.out _ _ ⟨⟨_,((HBX.out.set hMN _ _).set hMN _ _).alloc _⟩,rfl⟩ ?_;clear hK K;refine ym (by decide +kernel) ?_
    have cm:=yD r g q2.2 [59] _ HF.out.rd;go_wp2_with fail
    refine cm.mono ?_;clear cm X0 X1 X2 X3 X4 hne j0 j1 j2 j3 j4 j5 jf;rintro e wF ⟨rfl,hkM,hrM⟩;have HwF:Hid (yE r g N w (mustF [59] q2.2) #[.int .i64 2,.string ⟨#[]⟩,.slice (some ⟨w7.heap.size,0,none⟩) 2 2,.slice none 0 0,.slice none 0 0,.int .i64 t.line] wF):=HF.out.moved hr hkM hrM;have HROWF:Hid (zv (fun k=>B≤k) wF [qe.1,q2.1] (.slice (some ⟨w7.heap.size,0,none⟩) 2 2)):=zv.keptR (S:=fun k=>B≤k) HROW.out hkM fun k hk=>by omega
    clear hkM hrM HF HROW HD7 HDE HBX CE;obtain ⟨n0,n1,n2,n3,n4,n5,nf⟩:=zp HwF.out.blkN;obtain ⟨x0,x1,x2,x3,x4,x5,xf⟩:=zp HwF.out.res;have hNe:¬ w.heap.size=N:=by have:=HwF.out.hN;omega
    have hCE:=HwF.out;obtain ⟨z0,z1,z2,z3,z4,z5,-⟩:=zp (zP hCE.res (.int .i64 2) (.string ⟨#[]⟩) (.slice (some ⟨w7.heap.size,0,none⟩) 2 2) (.slice none 0 0) (.slice none 0 0) (.int .i64 t.line));have HP:Hid (yd r g w _ (.returned (.agg #[.int .i64 2,.string ⟨#[]⟩,.slice (some ⟨w7.heap.size,0,none⟩) 2 2,.slice none 0 0,.slice none 0 0,.int .i64 t.line])) (Yu wF w.heap.size (.int .i64 2) (.string ⟨#[]⟩) (.slice (some ⟨w7.heap.size,0,none⟩) 2 2) (.slice none 0 0) (.slice none 0 0) (.int .i64 t.line))):=hCE.leave (B:=B) hr hg 2 [] t.line (HROWF.out) (zD.nil _ _) (zD.nil _ _) (by omega)
    clear hCE;go_wp2
    exact bodyPost_ret (v:=.agg #[.int .i64 2,.string ⟨#[]⟩,.slice (some ⟨w7.heap.size,0,none⟩) 2 2,.slice none 0 0,.slice none 0 0,.int .i64 t.line]) (by simp [results,Tryz.results107,go_sem,z0,z1,z2,z3,z4,z5]) rfl HP.out
   ·intro K hK
    go_simp;refine hK.out _ _ ⟨⟨_,HBX.out.set hMN _ _⟩,rfl⟩ ?_;clear hK K;refine zG (fuel:=2) (fuel':=3) (i:=3) rfl (by decide +kernel) rfl rfl (by rfl) ?_
    intro K hK;go_simp;refine hK.out _ _ ⟨⟨_,(HBX.out.set hMN _ _).alloc _⟩,rfl⟩ ?_;clear hK K;refine Zz (fuel:=1) (fuel':=2) (idx:=[6]) (by decide +kernel) rfl rfl rfl (fun _ _ _ _ _ h=>h) ⟨⟨_,(HBX.out.set hMN _ _).alloc _⟩,rfl⟩ ?_
    show wpQuiet _ _ _ _ [_] _
    iterate 1 (go_big_quiet_step (fail))
    refine wpQuiet_nil ?_;refine zG (fuel:=0) (fuel':=1) (i:=7) rfl (by decide +kernel) rfl rfl (by rfl) ?_
    intro K hK;go_simp;refine hK.out _ _ ⟨⟨_,((HBX.out.set hMN _ _).set hMN _ _).alloc _⟩,rfl⟩ ?_;clear hK K;refine ym (by decide +kernel) ?_
    have cm:=yD r g q2.2 [59] _ HF.out.rd;go_wp2_with fail
    refine cm.mono ?_;clear cm X0 X1 X2 X3 X4 hne j0 j1 j2 j3 j4 j5 jf;rintro e wF ⟨rfl,hkM,hrM⟩;have HwF:Hid (yE r g N w (mustF [59] q2.2) #[.int .i64 2,.string ⟨#[]⟩,.slice (some ⟨w7.heap.size,0,none⟩) 2 2,.slice none 0 0,.slice none 0 0,.int .i64 t.line] wF):=HF.out.moved hr hkM hrM;have HROWF:Hid (zv (fun k=>B≤k) wF [qe.1,q2.1] (.slice (some ⟨w7.heap.size,0,none⟩) 2 2)):=zv.keptR (S:=fun k=>B≤k) HROW.out hkM fun k hk=>by omega
    clear hkM hrM HF HROW HD7 HDE HBX CE;obtain ⟨n0,n1,n2,n3,n4,n5,nf⟩:=zp HwF.out.blkN;obtain ⟨x0,x1,x2,x3,x4,x5,xf⟩:=zp HwF.out.res;have hNe:¬ w.heap.size=N:=by have:=HwF.out.hN;omega
    have hCE:=HwF.out;obtain ⟨z0,z1,z2,z3,z4,z5,-⟩:=zp (zP hCE.res (.int .i64 2) (.string ⟨#[]⟩) (.slice (some ⟨w7.heap.size,0,none⟩) 2 2) (.slice none 0 0) (.slice none 0 0) (.int .i64 t.line));have HP:Hid (yd r g w _ (.returned (.agg #[.int .i64 2,.string ⟨#[]⟩,.slice (some ⟨w7.heap.size,0,none⟩) 2 2,.slice none 0 0,.slice none 0 0,.int .i64 t.line])) (Yu wF w.heap.size (.int .i64 2) (.string ⟨#[]⟩) (.slice (some ⟨w7.heap.size,0,none⟩) 2 2) (.slice none 0 0) (.slice none 0 0) (.int .i64 t.line))):=hCE.leave (B:=B) hr hg 2 [] t.line (HROWF.out) (zD.nil _ _) (zD.nil _ _) (by omega)
    clear hCE;go_wp2
    exact bodyPost_ret (v:=.agg #[.int .i64 2,.string ⟨#[]⟩,.slice (some ⟨w7.heap.size,0,none⟩) 2 2,.slice none 0 0,.slice none 0 0,.int .i64 t.line]) (by simp [results,Tryz.results107,go_sem,z0,z1,z2,z3,z4,z5]) rfl HP.out
theorem zeS (r g F:Nat) (σ:RS) (w:World) (h:zz r g σ w) (hex:yp r g F) (h_let:zO [108,101,116] σ=false) (h_if:zO [105,102] σ=false) (h_while:zO [119,104,105,108,101] σ=false) (h_return:zO [114,101,116,117,114,110] σ=false) (qe:Ex × RS) (hqe:Z7 F 0 σ=some qe) (he:zO [61] qe.2=true) (hp:YQ qe.1=false) (q2:Ex × RS) (hq2:Z7 F 0 (true,qe.2.2)=some q2) :
  Calls Tryz.prog 107 #[.pointer (some ⟨r,0,none⟩)] w (yd r g w (.mk 2 [] [qe.1,q2.1] [] [] (zx σ.2).line,mustF [59] q2.2)):=by
 obtain ⟨hr,hg⟩:=h.lt;obtain ⟨t,ht⟩:∃t,t=zx σ.2:=⟨_,rfl⟩;have ct:=xO r g σ (w.alloc YR) (h.alloc _);rw [←ht] at ct ⊢;have HH:Hid (zz r g σ w):=h;have HEX:Hid (yp r g F):=hex;have hfl:=Z1;clear ht h hex
 go_enter Tryz.func107,Tryz.ntmps107
 go_wp2_with fail
 refine ct.mono ?_;clear ct;rintro e w1 ⟨rfl,hb1⟩;have hs1:w.heap.size+1≤w1.heap.size:=by have:=hb1.size;simpa using this
 have p1:w1.heap[w.heap.size]?=some YR:=(hb1.block _ (by simp)).trans (World.alloc_heap_new w _)
 have HA:Hid (yE r g w1.heap.size w σ #[.int .i64 0,.string ⟨#[]⟩,.slice none 0 0,.slice none 0 0,.slice none 0 0,.int .i64 t.line] (w1.alloc (.cells #[.int .i64 0,.string ⟨#[]⟩,.slice none 0 0,.slice none 0 0,.slice none 0 0,.int .i64 t.line] 108))):=⟨World.alloc_heap_new _ _,(Below.heap_alloc _ _ _ (by omega)).trans p1,((HH.out.alloc _).below hb1).alloc _,(((zc.refl r w).alloc _).trans (zc.of hb1)).alloc _,by omega⟩
 have hwn:w.heap.size<w1.heap.size:=by omega
 simp only [Xc];clear hb1 HH p1 hs1;have cs:=Zd r g σ [108,101,116] _ HA.out.rd;rw [h_let,zW h_let] at cs;go_wp2_with fail
 refine cs.mono ?_;clear cs;rintro e wA0 ⟨rfl,hk1,hr1⟩;have hC:=HA.out.moved hr hk1 hr1;obtain ⟨N,hN⟩:∃N,N=w1.heap.size:=⟨_,rfl⟩;rw [←hN] at hC hwn ⊢;have Hw0:Hid (yE r g N w σ #[.int .i64 0,.string ⟨#[]⟩,.slice none 0 0,.slice none 0 0,.slice none 0 0,.int .i64 t.line] wA0):=hC;clear hN hC hk1 hr1 HA;have cs:=Zd r g σ [105,102] _ Hw0.out.rd;rw [h_if,zW h_if] at cs;go_wp2_with fail
 refine cs.mono ?_;clear cs;rintro e wA1 ⟨rfl,hk1,hr1⟩;have Hw1:Hid (yE r g N w σ #[.int .i64 0,.string ⟨#[]⟩,.slice none 0 0,.slice none 0 0,.slice none 0 0,.int .i64 t.line] wA1):=Hw0.out.moved hr hk1 hr1;clear hk1 hr1 Hw0;have cs:=Zd r g σ [119,104,105,108,101] _ Hw1.out.rd;rw [h_while,zW h_while] at cs;go_wp2_with fail
 refine cs.mono ?_;clear cs;rintro e wA2 ⟨rfl,hk1,hr1⟩;have Hw2:Hid (yE r g N w σ #[.int .i64 0,.string ⟨#[]⟩,.slice none 0 0,.slice none 0 0,.slice none 0 0,.int .i64 t.line] wA2):=Hw1.out.moved hr hk1 hr1;clear hk1 hr1 Hw1;have cs:=Zd r g σ [114,101,116,117,114,110] _ Hw2.out.rd;rw [h_return,zW h_return] at cs;go_wp2_with fail
 refine cs.mono ?_;clear cs;rintro e wA3 ⟨rfl,hk1,hr1⟩;have Hw3:Hid (yE r g N w σ #[.int .i64 0,.string ⟨#[]⟩,.slice none 0 0,.slice none 0 0,.slice none 0 0,.int .i64 t.line] wA3):=Hw2.out.moved hr hk1 hr1;clear hk1 hr1 Hw2;clear h_let h_if h_while h_return;have ce:Calls Tryz.prog 139 #[.pointer (some ⟨r,0,none⟩),.int .i64 0] wA3 (Zo r g wA3 qe):=HEX.out F (Nat.le_refl _) 0 _ qe wA3 (by omega) hqe Hw3.out.rd
 clear hqe;go_wp2_with fail
 refine ce.mono ?_;clear ce;rintro e wB ⟨hkE,v,rfl,hx,hrE⟩;obtain ⟨a,b,c,d0,d1,d2,l,rfl⟩:=hx.agg;have HAK:Hid (a=(qe.1.kind:Int)):=hx.kind_eq;have hNA:N<wA3.heap.size:=(Array.getElem?_eq_some_iff.1 Hw3.out.blkN).1;have hsE:=hkE.size;have HwB:Hid (yE r g N w qe.2 #[.int .i64 0,.string ⟨#[]⟩,.slice none 0 0,.slice none 0 0,.slice none 0 0,.int .i64 t.line] wB):=Hw3.out.moved hr hkE hrE;have HS:Hid (vJ r g N wB.heap.size wA3.heap.size w qe.2 qe.1 [.int .i64 a,.string b,.int .i64 c,.slice d0 d1 d2,.int .i64 l] t.line ((((wB.setCell ⟨N,0,none⟩ (.int .i64 7)).setCell ⟨N,2,none⟩ (.slice (some ⟨wB.heap.size+1,0,none⟩) 1 1)).alloc (.cells #[.int .i64 a,.string b,.int .i64 c,.slice d0 d1 d2,.int .i64 l] 45)).alloc (.cells #[.int .i64 a,.string b,.int .i64 c,.slice d0 d1 d2,.int .i64 l] 45)).drew):=vJ.start (xs:=[.int .i64 a,.string b,.int .i64 c,.slice d0 d1 d2,.int .i64 l]) HwB.out hr hg hx rfl hNA hsE;obtain ⟨g0,g1,g2,g3,g4,g5,gf⟩:=zp (HwB.out.alloc (.cells #[.int .i64 a,.string b,.int .i64 c,.slice d0 d1 d2,.int .i64 l] 45)).blkN;obtain ⟨k0,k1,k2,k3,k4,k5,kf⟩:=zp HwB.out.blkN;have hwN:=HwB.out.hN;have hNM:N<wB.heap.size:=by omega
 clear hkE hx hrE Hw3;go_wp2_with fail
 go_cut [] (fun wx=>vJ r g N wB.heap.size wA3.heap.size w qe.2 qe.1 [.int .i64 a,.string b,.int .i64 c,.slice d0 d1 d2,.int .i64 l] t.line wx)
 case first =>
  go_region
  go_wp2_with fail
  go_meet
  exact HS.out
 case rest =>
  have HD:Hid (vJ r g N wB.heap.size wA3.heap.size w qe.2 qe.1 [.int .i64 a,.string b,.int .i64 c,.slice d0 d1 d2,.int .i64 l] t.line wc):=hcut;obtain ⟨M,hM⟩:∃M,M=wB.heap.size:=⟨_,rfl⟩;obtain ⟨B,hB⟩:∃B,B=wA3.heap.size:=⟨_,rfl⟩;rw [←hM,←hB] at HD;rw [←hB] at hNA;have ci:=zc0 r g qe.2 [61] wc HD.out.st.rd;rw [he] at ci;clear g0 g1 g2 g3 g4 g5 gf k0 k1 k2 k3 k4 k5 kf HS HwB hNM hsE hcut hB;rw [←hM];clear hM;go_wp2_with fail
  refine ci.mono ?_;clear ci;rintro e wD ⟨rfl,hbD⟩;have HDD:Hid (vJ r g N M B w qe.2 qe.1 [.int .i64 a,.string b,.int .i64 c,.slice d0 d1 d2,.int .i64 l] t.line wD):=HD.out.moved hr (zc.of hbD) (HD.out.st.rd.below hbD);clear hbD HD;have HQ2:Hid (Z7 F 0 (true,qe.2.2)=some q2):=hq2
  have h3:¬ a=4∧¬ a=8∧¬ a=9:=by
   have h9:=HAK.out
   unfold YQ at hp
   simp only [Bool.or_eq_false_iff,beq_eq_false_iff_ne] at hp;omega
  obtain ⟨q4,q8,q9⟩:=h3;have r4:(a==4)=false:=by simpa using q4
  have r8:(a==8)=false:=by simpa using q8
  have r9:(a==9)=false:=by simpa using q9
  have u4:(a != 4)=true:=by simp [bne,r4]
  have u8:(a != 8)=true:=by simp [bne,r8]
  have u9:(a != 9)=true:=by simp [bne,r9]
  obtain ⟨m0,m1,m2,m3,m4⟩:=HDD.out.cells;obtain ⟨pp,cap,TS,hbk⟩:=HDD.out.st.rd;obtain ⟨v0,v1,v2,vf⟩:=ZN hbk.blk;have HDX:Hid (vJ r g N M B w (true,qe.2.2) qe.1 [.int .i64 a,.string b,.int .i64 c,.slice d0 d1 d2,.int .i64 l] t.line (wD.setCell ⟨r,2,none⟩ (.bool true))):=HDD.out.moved hr ((zc.refl r wD).setCell 2 _) ⟨_,_,_,hbk.fail⟩;have hi4:zO [61] ((true,qe.2.2):RS)=false:=x9 _ _;have ck:=Zd r g (true,qe.2.2) [61] _ HDX.out.st.rd;rw [hi4,zW hi4] at ck;clear HAK hp hq2 hbk;go_wp2_with fail
  refine ck.mono ?_;clear ck m0 m1 m2 m3 m4 v0 v1 v2 vf q4 q8 q9 r4 r8 r9 u4 u8 u9;rintro e wE ⟨rfl,hkM,hrM⟩;have HDE:Hid (vJ r g N M B w (true,qe.2.2) qe.1 [.int .i64 a,.string b,.int .i64 c,.slice d0 d1 d2,.int .i64 l] t.line wE):=HDX.out.moved hr hkM hrM;have ce:=HEX.out F (Nat.le_refl _) 0 _ q2 wE.drew (by omega) HQ2.out HDE.out.drew.st.rd
  have CE:Hid (Calls Tryz.prog 139 #[.pointer (some ⟨r,0,none⟩),.int .i64 0] wE.drew (Zo r g wE.drew q2)):=ce;clear hkM hrM HDX HDD HQ2 ce;obtain ⟨n0,n1,n2,n3,n4,n5,nf⟩:=zp HDE.out.st.blkN
  haveI hne:Nonempty (y8 (Yl M a b c d0 d1 d2 l)):=⟨⟨wE,HDE.out.cells⟩⟩
  have X0:∀c1:y8 (Yl M a b c d0 d1 d2 l),c1.1.cell? ⟨M,0,none⟩=some (.int .i64 a):=fun c1=>c1.2.1
  have X1:∀c1:y8 (Yl M a b c d0 d1 d2 l),c1.1.cell? ⟨M,1,none⟩=some (.string b):=fun c1=>c1.2.2.1
  have X2:∀c1:y8 (Yl M a b c d0 d1 d2 l),c1.1.cell? ⟨M,2,none⟩=some (.int .i64 c):=fun c1=>c1.2.2.2.1
  have X3:∀c1:y8 (Yl M a b c d0 d1 d2 l),c1.1.cell? ⟨M,3,none⟩=some (.slice d0 d1 d2):=fun c1=>c1.2.2.2.2.1
  have X4:∀c1:y8 (Yl M a b c d0 d1 d2 l),c1.1.cell? ⟨M,4,none⟩=some (.int .i64 l):=fun c1=>c1.2.2.2.2.2
  go_wp2_with fail
  refine YK (n:=8) (S:=fun w'=>∃c1:y8 (Yl M a b c d0 d1 d2 l),w'=c1.1) (by kernel_rfl) rfl rfl ?_
  refine Zz (fuel:=5) (fuel':=8) (idx:=[0,1,4]) (by decide +kernel) rfl rfl rfl (fun _ _ _ _ _ h=>h) ⟨⟨wE.drew,HDE.out.drew.cells⟩,rfl⟩ ?_
  show wpQuiet _ _ _ _ [_,_,_] _
  iterate 3 (go_big_quiet_step (fail))
  refine wpQuiet_nil ?_;refine zG (fuel:=4) (fuel':=5) (i:=2) rfl (by decide +kernel) rfl rfl (by rfl) ?_
  intro K hK;go_simp;refine CE.out.mono ?_;rintro e w7 ⟨hk7,v,rfl,hx7,hr7⟩;obtain ⟨a2,b2,c2,e0,e1,e2,l2,rfl⟩:=hx7.agg;have HD7:Hid (vJ r g N M B w q2.2 qe.1 [.int .i64 a,.string b,.int .i64 c,.slice d0 d1 d2,.int .i64 l] t.line w7):=HDE.out.drew.moved hr hk7 hr7
  (try go_simp)
  refine hK.out _ _ ⟨⟨w7,HD7.out.cells⟩,rfl⟩ ?_;clear hK K;obtain ⟨hF1,hF2⟩:=HD7.out.two hr hg HDE.out.drew (xs:=[.int .i64 a,.string b,.int .i64 c,.slice d0 d1 d2,.int .i64 l]) (ys:=[.int .i64 a2,.string b2,.int .i64 c2,.slice e0 e1 e2,.int .i64 l2]) hx7 rfl rfl;have HF:Hid _:=hF1;have HROW:Hid _:=hF2;have hB7:=(Array.getElem?_eq_some_iff.1 HD7.out.box).1;have hN7:=(Array.getElem?_eq_some_iff.1 HD7.out.st.blkN).1;have hMN:M≠N:=by have:=HD7.out.hN;have:=HD7.out.hM;omega
  obtain ⟨j0,j1,j2,j3,j4,j5,jf⟩:=zp HD7.out.st.blkN;have HBX:Hid (Yl M a b c d0 d1 d2 l w7):=HD7.out.cells;clear hF1 hF2 hk7 hx7 hr7 n0 n1 n2 n3 n4 n5 nf;refine YV (fuel:=3) (fuel':=4) (i:=3) (k:=5) rfl rfl (by decide +kernel) rfl rfl rfl (by rfl) (by rfl) ?_ ?_
  ·intro K hK
   go_simp;refine hK.out _ _ ⟨⟨_,HBX.out.alloc _⟩,rfl⟩ ?_;clear hK K;refine zG (fuel:=2) (fuel':=3) (i:=5) rfl (by decide +kernel) rfl rfl (by rfl) ?_
   intro K hK;go_simp;refine hK.out _ _ ⟨⟨_,(HBX.out.set hMN _ _).alloc _⟩,rfl⟩ ?_;clear hK K;refine Zz (fuel:=1) (fuel':=2) (idx:=[6]) (by decide +kernel) rfl rfl rfl (fun _ _ _ _ _ h=>h) ⟨⟨_,(HBX.out.set hMN _ _).alloc _⟩,rfl⟩ ?_
   show wpQuiet _ _ _ _ [_] _
   iterate 1 (go_big_quiet_step (fail))
   refine wpQuiet_nil ?_;refine zG (fuel:=0) (fuel':=1) (i:=7) rfl (by decide +kernel) rfl rfl (by rfl) ?_
   intro K hK;go_simp;refine hK.out _ _ ⟨⟨_,((HBX.out.set hMN _ _).set hMN _ _).alloc _⟩,rfl⟩ ?_;clear hK K;refine ym (by decide +kernel) ?_
   have cm:=yD r g q2.2 [59] _ HF.out.rd;go_wp2_with fail
   refine cm.mono ?_;clear cm X0 X1 X2 X3 X4 hne j0 j1 j2 j3 j4 j5 jf;rintro e wF ⟨rfl,hkM,hrM⟩;have HwF:Hid (yE r g N w (mustF [59] q2.2) #[.int .i64 2,.string ⟨#[]⟩,.slice (some ⟨w7.heap.size,0,none⟩) 2 2,.slice none 0 0,.slice none 0 0,.int .i64 t.line] wF):=HF.out.moved hr hkM hrM;have HROWF:Hid (zv (fun k=>B≤k) wF [qe.1,q2.1] (.slice (some ⟨w7.heap.size,0,none⟩) 2 2)):=zv.keptR (S:=fun k=>B≤k) HROW.out hkM fun k hk=>by omega
   clear hkM hrM HF HROW HD7 HDE HBX CE;obtain ⟨n0,n1,n2,n3,n4,n5,nf⟩:=zp HwF.out.blkN;obtain ⟨x0,x1,x2,x3,x4,x5,xf⟩:=zp HwF.out.res;have hNe:¬ w.heap.size=N:=by have:=HwF.out.hN;omega
   have hCE:=HwF.out;obtain ⟨z0,z1,z2,z3,z4,z5,-⟩:=zp (zP hCE.res (.int .i64 2) (.string ⟨#[]⟩) (.slice (some ⟨w7.heap.size,0,none⟩) 2 2) (.slice none 0 0) (.slice none 0 0) (.int .i64 t.line));have HP:Hid (yd r g w _ (.returned (.agg #[.int .i64 2,.string ⟨#[]⟩,.slice (some ⟨w7.heap.size,0,none⟩) 2 2,.slice none 0 0,.slice none 0 0,.int .i64 t.line])) (Yu wF w.heap.size (.int .i64 2) (.string ⟨#[]⟩) (.slice (some ⟨w7.heap.size,0,none⟩) 2 2) (.slice none 0 0) (.slice none 0 0) (.int .i64 t.line))):=hCE.leave (B:=B) hr hg 2 [] t.line (HROWF.out) (zD.nil _ _) (zD.nil _ _) (by omega)
   clear hCE;go_wp2
   exact bodyPost_ret (v:=.agg #[.int .i64 2,.string ⟨#[]⟩,.slice (some ⟨w7.heap.size,0,none⟩) 2 2,.slice none 0 0,.slice none 0 0,.int .i64 t.line]) (by simp [results,Tryz.results107,go_sem,z0,z1,z2,z3,z4,z5]) rfl HP.out
  ·intro K hK
   go_simp;refine hK.out _ _ ⟨⟨_,HBX.out.set hMN _ _⟩,rfl⟩ ?_;clear hK K;refine zG (fuel:=2) (fuel':=3) (i:=3) rfl (by decide +kernel) rfl rfl (by rfl) ?_
   intro K hK;go_simp;refine hK.out _ _ ⟨⟨_,(HBX.out.set hMN _ _).alloc _⟩,rfl⟩ ?_;clear hK K;refine Zz (fuel:=1) (fuel':=2) (idx:=[6]) (by decide +kernel) rfl rfl rfl (fun _ _ _ _ _ h=>h) ⟨⟨_,(HBX.out.set hMN _ _).alloc _⟩,rfl⟩ ?_
   show wpQuiet _ _ _ _ [_] _
   iterate 1 (go_big_quiet_step (fail))
   refine wpQuiet_nil ?_;refine zG (fuel:=0) (fuel':=1) (i:=7) rfl (by decide +kernel) rfl rfl (by rfl) ?_
   intro K hK;go_simp;refine hK.out _ _ ⟨⟨_,((HBX.out.set hMN _ _).set hMN _ _).alloc _⟩,rfl⟩ ?_;clear hK K;refine ym (by decide +kernel) ?_
   have cm:=yD r g q2.2 [59] _ HF.out.rd;go_wp2_with fail
   refine cm.mono ?_;clear cm X0 X1 X2 X3 X4 hne j0 j1 j2 j3 j4 j5 jf;rintro e wF ⟨rfl,hkM,hrM⟩;have HwF:Hid (yE r g N w (mustF [59] q2.2) #[.int .i64 2,.string ⟨#[]⟩,.slice (some ⟨w7.heap.size,0,none⟩) 2 2,.slice none 0 0,.slice none 0 0,.int .i64 t.line] wF):=HF.out.moved hr hkM hrM;have HROWF:Hid (zv (fun k=>B≤k) wF [qe.1,q2.1] (.slice (some ⟨w7.heap.size,0,none⟩) 2 2)):=zv.keptR (S:=fun k=>B≤k) HROW.out hkM fun k hk=>by omega
   clear hkM hrM HF HROW HD7 HDE HBX CE;obtain ⟨n0,n1,n2,n3,n4,n5,nf⟩:=zp HwF.out.blkN;obtain ⟨x0,x1,x2,x3,x4,x5,xf⟩:=zp HwF.out.res;have hNe:¬ w.heap.size=N:=by have:=HwF.out.hN;omega
   have hCE:=HwF.out;obtain ⟨z0,z1,z2,z3,z4,z5,-⟩:=zp (zP hCE.res (.int .i64 2) (.string ⟨#[]⟩) (.slice (some ⟨w7.heap.size,0,none⟩) 2 2) (.slice none 0 0) (.slice none 0 0) (.int .i64 t.line));have HP:Hid (yd r g w _ (.returned (.agg #[.int .i64 2,.string ⟨#[]⟩,.slice (some ⟨w7.heap.size,0,none⟩) 2 2,.slice none 0 0,.slice none 0 0,.int .i64 t.line])) (Yu wF w.heap.size (.int .i64 2) (.string ⟨#[]⟩) (.slice (some ⟨w7.heap.size,0,none⟩) 2 2) (.slice none 0 0) (.slice none 0 0) (.int .i64 t.line))):=hCE.leave (B:=B) hr hg 2 [] t.line (HROWF.out) (zD.nil _ _) (zD.nil _ _) (by omega)
   clear hCE;go_wp2
   exact bodyPost_ret (v:=.agg #[.int .i64 2,.string ⟨#[]⟩,.slice (some ⟨w7.heap.size,0,none⟩) 2 2,.slice none 0 0,.slice none 0 0,.int .i64 t.line]) (by simp [results,Tryz.results107,go_sem,z0,z1,z2,z3,z4,z5]) rfl HP.out
end Go.Proofs.YtpejpbbdgblbeaaGreatDoor
