import Derived.Test.YtpejpbbdgblbeaaGreatDoorMC37
import Derived.Test.YtpejpbbdgblbeaaGreatDoorMC23
import Derived.Test.YtpejpbbdgblbeaaGreatDoorSDUnary
import Derived.Test.YtpejpbbdgblbeaaGreatDoorSDSingle
import Derived.Test.YtpejpbbdgblbeaaGreatDoorMC35
import Derived.Test.YtpejpbbdgblbeaaGreatDoorMC31
import Derived.Test.YtpejpbbdgblbeaaGreatDoorMC45
import Derived.Test.YtpejpbbdgblbeaaGreatDoorMC46
namespace Go.Proofs.YtpejpbbdgblbeaaGreatDoor
open Go.RowKit Go.Shelf
set_option maxHeartbeats 16000000
set_option maxRecDepth 100000
theorem uc (s:List UInt8) (σ:RS):(mustF s σ).1=true∨(mustF s σ).2.length<σ.2.length:=by
 unfold mustF
 split
 ·rename_i h
  have:=yV (Yo h).2.2
  right;simp only;omega
 ·exact .inl rfl
theorem Z9 {α β:Type} {x:Option α} {k:α→Option β} {q:β} (h:x.bind k=some q):∃y,x=some y∧k y=some q:=Option.bind_eq_some_iff.1 h
theorem ziQ (f:Nat) :
  (∀σ q,Xu f σ=some q→q.2.2.length≤σ.2.length∧(q.2.1=true∨q.2.2.length<σ.2.length))∧(∀σ q,yK f σ=some q→q.2.2.length≤σ.2.length)∧(∀pre σ q,Yv f pre σ=some q→q.2.2.length≤σ.2.length):=by
 induction f with
 | zero=>refine ⟨?_,?_,?_⟩ <;> intros <;> simp_all [Xu,yK,Yv]
 | succ f ih =>
  obtain ⟨i1,i2,i3⟩:=ih;refine ⟨fun σ q h=>?_,fun σ q h=>?_,fun pre σ q h=>?_⟩
  ·rw [Xu] at h
   split at h
   ·rename_i hc
    have l0:=yV (Yo hc).2.2;obtain ⟨y,h1,h2⟩:=Z9 h;obtain rfl:=Option.some.inj h2;have a1:=(uB f).1 _ _ _ h1;have a2:=yG [61] (nameF (false,σ.2.tail)).2;have a3:=Xd (false,σ.2.tail);have a4:=yG [59] y.2;simp only at a1 a2 a3 a4 ⊢;exact ⟨by omega,.inr (by omega)⟩
   split at h
   ·rename_i hc
    have l0:=yV (Yo hc).2.2;obtain ⟨y,h1,h⟩:=Z9 h;obtain ⟨z,h2,h⟩:=Z9 h;have a1:=(uB f).1 _ _ _ h1;have a2:=i2 _ _ h2
    split at h
    ·obtain ⟨c,h3,h⟩:=Z9 h
     obtain rfl:=Option.some.inj h;have a3:=i2 _ _ h3;have a4:=Zw z.2.2;simp only at a1 a2 a3 a4 ⊢;exact ⟨by omega,.inr (by omega)⟩
    ·obtain rfl:=Option.some.inj h
     simp only at a1 a2 ⊢;exact ⟨by omega,.inr (by omega)⟩
   split at h
   ·rename_i hc
    have l0:=yV (Yo hc).2.2;obtain ⟨y,h1,h⟩:=Z9 h;obtain ⟨z,h2,h⟩:=Z9 h;obtain rfl:=Option.some.inj h;have a1:=(uB f).1 _ _ _ h1;have a2:=i2 _ _ h2;simp only at a1 a2 ⊢;exact ⟨by omega,.inr (by omega)⟩
   split at h
   ·rename_i hc
    have l0:=yV (Yo hc).2.2
    split at h
    ·obtain rfl:=Option.some.inj h
     have a1:=Zw σ.2.tail;simp only;exact ⟨by omega,.inr (by omega)⟩
    ·obtain ⟨y,h1,h⟩:=Z9 h
     obtain rfl:=Option.some.inj h;have a1:=(uB f).1 _ _ _ h1;have a4:=yG [59] y.2;simp only at a1 a4 ⊢;exact ⟨by omega,.inr (by omega)⟩
   ·obtain ⟨y,h1,h⟩:=Z9 h
    have a1:=(uB f).1 _ _ _ h1
    split at h
    ·obtain ⟨z,h2,h⟩:=Z9 h
     obtain rfl:=Option.some.inj h;have a2:=(uB f).1 _ _ _ h2
     have a3:(if YQ y.1=true then ((false,y.2.2.tail):RS) else (true,y.2.2)).2.length≤y.2.2.length:=by
      split
      ·exact Zw _
      ·exact Nat.le_refl _
     have a4:=yG [59] z.2;have a5:=uc [59] z.2;simp only at a1 a2 a3 a4 a5 ⊢;exact ⟨by omega,a5.imp id fun h=>by omega⟩
    ·obtain rfl:=Option.some.inj h
     have a4:=yG [59] y.2;have a5:=uc [59] y.2;simp only at a1 a4 a5 ⊢;exact ⟨by omega,a5.imp id fun h=>by omega⟩
  ·rw [yK] at h
   exact Nat.le_trans (i3 _ _ _ h) (yG _ _)
  ·rw [Yv] at h
   split at h
   ·obtain rfl:=Option.some.inj h;exact Nat.le_refl _
   split at h
   ·obtain rfl:=Option.some.inj h;exact Zw _
   ·obtain ⟨y,h1,h⟩:=Z9 h
    exact Nat.le_trans (i3 _ _ _ h) (i1 _ _ h1).1
def yd (r g:Nat) (w:World) (q:St × RS) (e:Ending) (w':World):Prop:=zc r w w'∧∃v,e=.returned v∧yS (fun k=>w.heap.size≤k) w' q.1 v∧zz r g q.2 w'
def UQ (r g:Nat) (w:World) (q:List St × RS) (e:Ending) (w':World):Prop:=zc r w w'∧∃v,e=.returned v∧zD (fun k=>w.heap.size≤k) w' q.1 v∧zz r g q.2 w'
def badN (r:Nat) (w:World):Nat:=match w.cell? ⟨r,2,none⟩ with | some (.bool true)=>0 | _=>1
theorem zz.badN {r g:Nat} {σ:RS} {w:World} (h:zz r g σ w):badN r w=if σ.1=true then 0 else 1:=by
 obtain ⟨p,cap,TS,hb⟩:=h;obtain ⟨c0,c1,c2,-⟩:=ZN hb.blk
 unfold Go.Proofs.YtpejpbbdgblbeaaGreatDoor.badN
 rw [c2]
 cases σ.1 <;> rfl
theorem zg9 (r g F:Nat) (σ:RS) (w:World) (l0:List St × RS) (h:zz r g σ w) (hq:yK (F+1) σ=some l0)
  (hst:∀f2,f2≤F→∀(σ2:RS) (q:St × RS) (W:World),Xu f2 σ2=some q→zz r g σ2 W→Calls Tryz.prog 107 #[.pointer (some ⟨r,0,none⟩)] W (yd r g W q)) :
  Calls Tryz.prog 65 #[.pointer (some ⟨r,0,none⟩)] w (UQ r g w l0):=by
 obtain ⟨i0,hi0,hz0,hz1,hz2⟩:=info_parts QP;obtain ⟨hr,hg⟩:=h.lt;rw [yK] at hq;have hfew:=h.few;have hml:=yG [123] σ;have cm:=yD r g σ [123] w h;generalize mustF [123] σ=σ1 at *;have HQ:Hid (Yv F [] σ1=some l0):=hq;have HST:Hid (∀f2,f2≤F→∀(σ2:RS) (q:St × RS) (W:World),Xu f2 σ2=some q→zz r g σ2 W→Calls Tryz.prog 107 #[.pointer (some ⟨r,0,none⟩)] W (yd r g W q)):=hst;clear hq h hst
 go_enter Tryz.func65,Tryz.ntmps65
 go_wp2_with fail
 refine cm.mono ?_;clear cm;rintro e w0 ⟨rfl,hk1,hr1⟩;have HK1:Hid (zc r w w0):=hk1;have HR1:Hid (zz r g σ1 w0):=hr1;have hfl:(if σ1.1=true then 0 else 1)≤1:=by split <;> omega
 clear hk1 hr1;go_wp2_with fail
 go_loopw [3] (fun v wr=>∃(L:List St) (σ2:RS) (f2:Nat),f2≤F∧Yv f2 L σ2=some l0∧L.length+σ2.2.length+(if σ2.1=true then 0 else 1)≤1099511627777∧Z6 StE 6 108 w.heap.size wr L v∧zz r g σ2 wr∧zc r w wr) (fun _ wr=>Z8 r wr+badN r wr)
 case atStart=>exact ⟨[],σ1,F,Nat.le_refl _,HQ.out,by simp only [List.length_nil];omega,Z6.nil _ _ _ _ _,HR1.out,HK1.out⟩
 case round =>
  obtain ⟨L,σ2,f2,hf2,hT,hN2,hrow,hrd2,hk2⟩:=hrel;clear HR1 HK1 HQ hfl hfew hml;obtain ⟨bd,ts⟩:=σ2;have HLEFT:Hid (Z8 r wr=ts.length):=hrd2.left;have HBAD:Hid (badN r wr=if bd=true then 0 else 1):=hrd2.badN
  have HROW:Hid (Z6 StE 6 108 w.heap.size wr L _):=hrow;have HK2:Hid (zc r w wr):=hk2;have HR2:Hid (zz r g (bd,ts) wr):=hrd2;obtain ⟨lb,lc,hval⟩:=hrow.slice;subst hval
  obtain ⟨f3,rfl⟩:∃f3,f2=f3+1:=by
   cases f2 with
   | zero=>simp [Yv] at hT
   | succ f3=>exact ⟨f3,rfl⟩
  rw [Yv] at hT;have ck:=Zd r g (bd,ts) [125] wr hrd2;obtain ⟨pp,cap,TS,hb⟩:=hrd2;obtain ⟨m0,m1,m2,mf⟩:=ZN hb.blk;clear hb hrow hk2;cases bd
  ·rw [if_neg (by simp)] at hT
   cases hi:zO [125] (false,ts)
   ·rw [hi,zW hi] at ck
    rw [if_neg (by simp [hi])] at hT
    obtain ⟨q3,hq3,hq4⟩:=Z9 hT;have hl3:=(ziQ f3).1 _ _ hq3;have HL3:Hid (q3.2.2.length≤ts.length∧(q3.2.1=true∨q3.2.2.length<ts.length)):=hl3;have HQ4:Hid (Yv f3 (L++[q3.1]) q3.2=some l0):=hq4;have HC3:Hid (∀W,zz r g (false,ts) W→Calls Tryz.prog 107 #[.pointer (some ⟨r,0,none⟩)] W (yd r g W q3)):=fun W hW=>HST.out f3 (by omega) _ _ W hq3 hW
    clear hT hq3 hq4 hl3 HR2;go_wp2_with fail
    refine ck.mono ?_;clear ck m0 m1 m2 mf;rintro e w3 ⟨rfl,hk3,hr3⟩;have c3:=HC3.out w3 hr3;have HK3:Hid (zc r w w3):=HK2.out.trans hk3;have HROW3:Hid (Z6 StE 6 108 w.heap.size w3 L (.slice lb L.length lc)):=HROW.out.kept XC hk3.size fun k hB hlt=>hk3.block k hlt (by omega)
    clear hk3 hr3 HC3 HROW HK2;go_wp2_with fail
    refine c3.mono ?_;clear c3;rintro e w4 ⟨hk4,v,rfl,hx,hrd⟩;have HK4:Hid (zc r w w4):=HK3.out.trans hk4;obtain ⟨a4,b4,e0,e1,e2,b0,b1,b2,l0',l1',l2',c4,rfl⟩:=hx.agg;have hrow4:=HROW3.out.kept XC hk4.size fun k hB hlt=>hk4.block k hlt (by omega)
    have hsz3:w.heap.size≤w3.heap.size:=HK3.out.size;have hsz4:w.heap.size≤w4.heap.size:=HK4.out.size;obtain ⟨us,hown,hnext⟩:=hrow4.more XC;have HX4:Hid (StE (fun k=>w3.heap.size≤k) w4 q3.1 [.int .i64 a4,.string b4,.slice e0 e1 e2,.slice b0 b1 b2,.slice l0' l1' l2',.int .i64 c4]):=hx
    have HB3:Hid (∀q,(Value.slice lb L.length lc).ownBlock=some q→q<w3.heap.size):=fun q hq=>(HROW3.out.block q hq).2
    have HBB:Hid (∀q,(Value.slice lb L.length lc).ownBlock=some q→w.heap.size≤q):=fun q hq=>(HROW3.out.block q hq).1
    have HRD:Hid (zz r g q3.2 w4):=hrd;have HOWN:=(hown.alloc (.cells #[.int .i64 a4,.string b4,.slice e0 e1 e2,.slice b0 b1 b2,.slice l0' l1' l2',.int .i64 c4] 108));have hLb:L.length≤1099511627777:=by omega
    have HNX:=(show Hid _ from @hnext)
    clear hrow4 hrd hk4 hown hnext hx
    go_wp2_with (at_builtin;refine wpList_append_own_at _ rfl _ _ 70 rfl w.heap.size 108 i0 _ 6 104 Tryz.underlying70 hi0 hz0 hz1 hz2 rfl (by decide) _ _ _ rfl HOWN ⟨w4.heap.size,0,none⟩ 1 1 [.int .i64 a4,.string b4,.slice e0 e1 e2,.slice b0 b1 b2,.slice l0' l1' l2',.int .i64 c4] rfl rfl (Zl _ _ _) (by simp [Value.oneCell']) (by unfold maxLen;omega) (by omega) (by simp;omega) ?_;intro v' w5 hown' hgrow _ hat)
    have hrow5:=HNX.out (x:=q3.1) (c:=[.int .i64 a4,.string b4,.slice e0 e1 e2,.slice b0 b1 b2,.slice l0' l1' l2',.int .i64 c4]) (ob:=(.cells #[.int .i64 a4,.string b4,.slice e0 e1 e2,.slice b0 b1 b2,.slice l0' l1' l2',.int .i64 c4] 108)) (N:=w3.heap.size) HX4.out hsz3 HB3.out rfl hown' hgrow hat
    have hk5:zc r w w5:=(HK4.out.alloc _).grown hgrow HBB.out;have hrd5:zz r g q3.2 w5:=HRD.out.keep ((hgrow.block r (by simp;omega) (fun e=>by have:=HBB.out r e.symm;omega)).trans (Below.heap_alloc _ _ _ (by omega))) ((hgrow.block g (by simp;omega) (fun e=>by have:=HBB.out g e.symm;omega)).trans (Below.heap_alloc _ _ _ (by omega)))
    have HJ:Hid (Z6 StE 6 108 w.heap.size w5 (L++[q3.1]) v'∧zz r g q3.2 w5∧zc r w w5):=⟨hrow5,hrd5,hk5⟩;have hlf:Z8 r w5=q3.2.2.length:=hrd5.left;have hlb:badN r w5=if q3.2.1=true then 0 else 1:=hrd5.badN
    clear hrow5 hk5 hrd5 hown' hgrow hat HNX HX4 HB3 HBB HRD HOWN HROW3 HK3 HK4;go_wp2
    have hll:=HL3.out;have hlen:(L++[q3.1]).length=L.length+1:=by simp
    simp only [Bool.false_eq_true,if_false] at hN2;refine ⟨⟨L++[q3.1],_,f3,by omega,HQ4.out,?_,HJ.out⟩,?_⟩
    ·rw [hlen];split <;> rcases hll with ⟨h1,h2 | h2⟩ <;> simp_all <;> omega
    ·rw [hlf,hlb,HLEFT.out,HBAD.out];split <;> rcases hll with ⟨h1,h2 | h2⟩ <;> simp_all <;> omega
   ·rw [hi,ZD hi] at ck
    rw [if_pos hi] at hT;obtain rfl:=Option.some.inj hT;go_wp2_with fail
    refine ck.mono ?_;clear ck m0 m1 m2 mf;rintro e w3 ⟨rfl,hk3,hr3⟩;have HP:Hid (UQ r g w (L,(false,ts.tail)) (.returned (.slice lb L.length lc)) w3):=⟨HK2.out.trans hk3,_,rfl,(HROW.out.kept XC hk3.size fun k hB hlt=>hk3.block k hlt (by omega)).sts,hr3⟩
    clear hk3 hr3 HROW HR2 HK2 hT;go_wp2
    exact bodyPost_ret (v:=.slice lb L.length lc) (by simp [results,Tryz.results65,go_sem]) rfl HP.out
  ·rw [if_pos rfl] at hT
   obtain rfl:=Option.some.inj hT;have HP:Hid (UQ r g w (L,(true,ts)) (.returned (.slice lb L.length lc)) wr):=⟨HK2.out,_,rfl,HROW.out.sts,HR2.out⟩;clear ck hT HROW HR2 HK2;go_wp2
   exact bodyPost_ret (v:=.slice lb L.length lc) (by simp [results,Tryz.results65,go_sem]) rfl HP.out
theorem zdN (r g:Nat):∀F,yp r g F∧uF r g F∧qH r g F∧zc3 r g F
 | 0=>by
  refine ⟨fun k hk line σ q w hl hq h=>?_,fun k hk σ q w hq h=>?_,fun k hk σ q w hq h=>?_,fun k hk s b σ q w hq h=>?_⟩ <;> (obtain rfl:k=0:=by omega) <;> simp [Z7,yN,Yk,Yf] at hq
 | F+1=>by
  obtain ⟨i1,i2,i3,i4⟩:=zdN r g F;have up:∀k,k≤F+1→k≤F∨k=F+1:=fun k h=>by omega
  refine ⟨fun k hk line σ q w hl hq h=>?_,fun k hk σ q w hq h=>?_,fun k hk σ q w hq h=>?_,fun k hk s b σ q w hq h=>?_⟩
  ·rcases up k hk with h1 | rfl
   ·exact i1 k h1 line σ q w hl hq h
   ·rw [Z7] at hq
    by_cases h6:line=6
    ·subst h6
     rw [if_pos rfl] at hq;exact zeE r g F σ w q h hq i2
    ·rw [if_neg h6] at hq
     exact zc4 r g F line σ w q h (by omega) hq i1
  ·rcases up k hk with h1 | rfl
   ·exact i2 k h1 σ q w hq h
   ·exact zg8 r g F σ w q h hq i2 i3 i1
  ·rcases up k hk with h1 | rfl
   ·exact i3 k h1 σ q w hq h
   ·exact zgg r g F σ w q h hq i1 i4
  ·rcases up k hk with h1 | rfl
   ·exact i4 k h1 s b σ q w hq h
   ·exact zg0 r g F s b σ w q h hq i1
def zib (r g F:Nat):Prop:=∀k,k≤F→∀(σ:RS) (q:St × RS) (W:World),Xu k σ=some q→zz r g σ W→Calls Tryz.prog 107 #[.pointer (some ⟨r,0,none⟩)] W (yd r g W q)
def Xa (r g F:Nat):Prop:=∀k,k≤F→∀(σ:RS) (q:List St × RS) (W:World),yK k σ=some q→zz r g σ W→Calls Tryz.prog 65 #[.pointer (some ⟨r,0,none⟩)] W (UQ r g W q)
structure yE (r g N:Nat) (w:World) (σ:RS) (c:Array Value) (W:World):Prop where
 blkN:W.heap[N]?=some (.cells c 108 (0,0))
 res:W.heap[w.heap.size]?=some YR
 rd:zz r g σ W
 kept:zc r w W
 hN:w.heap.size<N
theorem yE.moved {r g N:Nat} {w W W':World} {σ σ':RS} {c:Array Value} (h:yE r g N w σ c W) (hr:r<w.heap.size) (hK:zc r W W') (hrd:zz r g σ' W'):yE r g N w σ' c W' where
 blkN:=(hK.block _ (Array.getElem?_eq_some_iff.1 h.blkN).1 (by have:=h.hN;omega)).trans h.blkN
 res:=(hK.block _ (Array.getElem?_eq_some_iff.1 h.res).1 (by omega)).trans h.res
 rd:=hrd
 kept:=h.kept.trans hK
 hN:=h.hN
theorem yE.set {r g N:Nat} {w W:World} {σ:RS} {c:Array Value} (h:yE r g N w σ c W) (hr:r<w.heap.size) (hg:g<w.heap.size) (j:Nat) (v:Value):yE r g N w σ (c.setIfInBounds j v) (W.setCell ⟨N,j,none⟩ v) where
 blkN:=zm v h.blkN
 res:=(Below.heap_setCell _ _ _ _ (by have:=h.hN;simp;omega)).trans h.res
 rd:=h.rd.far (by have:=h.hN;omega) (by have:=h.hN;omega) j v
 kept:=h.kept.far (Nat.le_of_lt h.hN) j v
 hN:=h.hN
theorem yE.alloc {r g N:Nat} {w W:World} {σ:RS} {c:Array Value} (h:yE r g N w σ c W) (ob:Obj):yE r g N w σ c (W.alloc ob) where
 blkN:=(Below.heap_alloc _ _ _ (Array.getElem?_eq_some_iff.1 h.blkN).1).trans h.blkN
 res:=(Below.heap_alloc _ _ _ (Array.getElem?_eq_some_iff.1 h.res).1).trans h.res
 rd:=h.rd.alloc ob
 kept:=h.kept.alloc ob
 hN:=h.hN
theorem yE.drew {r g N:Nat} {w W:World} {σ:RS} {c:Array Value} (h:yE r g N w σ c W):yE r g N w σ c W.drew where
 blkN:=h.blkN
 res:=h.res
 rd:=h.rd.keep rfl rfl
 kept:=⟨h.kept.os,h.kept.tape,h.kept.output,h.kept.size,h.kept.block⟩
 hN:=h.hN
theorem yE.below {r g N:Nat} {w W W':World} {σ:RS} {c:Array Value} (h:yE r g N w σ c W) (hb:Below W.heap.size W W'):yE r g N w σ c W' where
 blkN:=(hb.block _ (Array.getElem?_eq_some_iff.1 h.blkN).1).trans h.blkN
 res:=(hb.block _ (Array.getElem?_eq_some_iff.1 h.res).1).trans h.res
 rd:=h.rd.below hb
 kept:=h.kept.trans (zc.of hb)
 hN:=h.hN
theorem yE.leave {r g N B:Nat} {w W:World} {σ:RS} {c:Array Value} {es:List Ex} {body els:List St} {ve vb vl:Value} (h:yE r g N w σ c W) (hr:r<w.heap.size) (hg:g<w.heap.size) (k:Nat) (s:List UInt8) (line:Nat)
  (he:zv (fun j=>B≤j) W es ve) (hb:zD (fun j=>B≤j) W body vb) (hl:zD (fun j=>B≤j) W els vl) (hB:w.heap.size<B) :
  yd r g w (.mk k s es body els line,σ) (.returned (.agg #[.int .i64 k,.string (za s),ve,vb,vl,.int .i64 line])) (Yu W w.heap.size (.int .i64 k) (.string (za s)) ve vb vl (.int .i64 line)):=by
 refine ⟨xD h.kept (Nat.le_refl _) _ _ _ _ _ _,_,rfl,?_,h.rd.keep (Yc _ _ _ _ _ _ _ _ (by omega)) (Yc _ _ _ _ _ _ _ _ (by omega))⟩
 have hs:W.heap.size≤(Yu W w.heap.size (.int .i64 k) (.string (za s)) ve vb vl (.int .i64 line)).heap.size:=by simp
 have hkp:∀j,B≤j→j<W.heap.size→(Yu W w.heap.size (.int .i64 k) (.string (za s)) ve vb vl (.int .i64 line)).heap[j]?=W.heap[j]?:=fun j hj _=>Yc _ _ _ _ _ _ _ _ (by omega)
 exact yS.wide (yS.of k s line (he.kept hs hkp) (hb.kept hs hkp) (hl.kept hs hkp)) fun j hj=>by omega
theorem yE.one {r g N B:Nat} {w W:World} {σ:RS} {c:Array Value} {x:Ex} {xs:List Value} (h:yE r g N w σ c W) (hr:r<w.heap.size) (hg:g<w.heap.size) (hx:ZO B W x (.agg xs.toArray)) (hxs:xs.length=5) (hNB:N<B) (hBW:B≤W.heap.size) :
  yE r g N w σ (c.setIfInBounds 2 (.slice (some ⟨W.heap.size,0,none⟩) 1 1)) ((W.setCell ⟨N,2,none⟩ (.slice (some ⟨W.heap.size,0,none⟩) 1 1)).alloc (.cells xs.toArray 45)) ∧
  zv (fun k=>B≤k) ((W.setCell ⟨N,2,none⟩ (.slice (some ⟨W.heap.size,0,none⟩) 1 1)).alloc (.cells xs.toArray 45)) [x] (.slice (some ⟨W.heap.size,0,none⟩) 1 1):=by
 refine ⟨(h.set hr hg 2 _).alloc _,?_⟩;have hx2:zY (fun k=>B≤k) (W.setCell ⟨N,2,none⟩ (.slice (some ⟨W.heap.size,0,none⟩) 1 1)) x (.agg xs.toArray):=zY.kept hx (by simp) fun k hk _=>Below.heap_setCell _ _ _ _ (by simp;omega)
 have h1:=zv.one (S:=fun k=>B≤k) 45 hx2 hxs (by simpa using hBW)
 simpa using h1
theorem zeU (r g F:Nat) (σ:RS) (w:World) (h:zz r g σ w) (hex:yp r g F) (hi:zO [108,101,116] σ=true) (qe:Ex × RS) (hqe:Z7 F 0 (mustF [61] (nameF (false,σ.2.tail)).2)=some qe) :
  Calls Tryz.prog 107 #[.pointer (some ⟨r,0,none⟩)] w (yd r g w (.mk 1 (nameF (false,σ.2.tail)).1 [qe.1] [] [] (zx σ.2).line,mustF [59] qe.2)):=by
 obtain ⟨hr,hg⟩:=h.lt;obtain ⟨t,ht⟩:∃t,t=zx σ.2:=⟨_,rfl⟩;have ct:=xO r g σ (w.alloc YR) (h.alloc _);rw [←ht] at ct ⊢;have HN:Hid (∀W,zz r g (false,σ.2.tail) W→Calls Tryz.prog 60 #[.pointer (some ⟨r,0,none⟩)] W fun e w'=>e=.returned (.string (za (nameF (false,σ.2.tail)).1))∧zc r W w'∧zz r g (nameF (false,σ.2.tail)).2 w'):=fun W hW=>V3 r g _ W hW
 generalize nameF (false,σ.2.tail)=qn at *;have HH:Hid (zz r g σ w):=h;have HEX:Hid (yp r g F):=hex;have hfl:=Z1;clear ht h hex
 go_enter Tryz.func107,Tryz.ntmps107
 go_wp2_with fail
 refine ct.mono ?_;clear ct;rintro e w1 ⟨rfl,hb1⟩;have hs1:w.heap.size+1≤w1.heap.size:=by have:=hb1.size;simpa using this
 have p1:w1.heap[w.heap.size]?=some YR:=(hb1.block _ (by simp)).trans (World.alloc_heap_new w _)
 have HA:Hid (yE r g w1.heap.size w σ #[.int .i64 0,.string ⟨#[]⟩,.slice none 0 0,.slice none 0 0,.slice none 0 0,.int .i64 t.line] (w1.alloc (.cells #[.int .i64 0,.string ⟨#[]⟩,.slice none 0 0,.slice none 0 0,.slice none 0 0,.int .i64 t.line] 108))):=⟨World.alloc_heap_new _ _,(Below.heap_alloc _ _ _ (by omega)).trans p1,((HH.out.alloc _).below hb1).alloc _,(((zc.refl r w).alloc _).trans (zc.of hb1)).alloc _,by omega⟩
 have hwn:w.heap.size<w1.heap.size:=by omega
 simp only [Xc];clear hb1 HH p1 hs1;have cs:=Zd r g σ [108,101,116] _ HA.out.rd;rw [hi,ZD hi] at cs;go_wp2_with fail
 refine cs.mono ?_;clear cs;rintro e wB ⟨rfl,hk1,hr1⟩;have hC:=HA.out.moved hr hk1 hr1;obtain ⟨N,hN⟩:∃N,N=w1.heap.size:=⟨_,rfl⟩;rw [←hN] at hC hwn ⊢;have HwB:Hid (yE r g N w (false,σ.2.tail) #[.int .i64 0,.string ⟨#[]⟩,.slice none 0 0,.slice none 0 0,.slice none 0 0,.int .i64 t.line] wB):=hC;clear hN hC hk1 hr1 HA;have cn:=HN.out wB HwB.out.rd;clear HN hi;go_wp2_with fail
 refine cn.mono ?_;clear cn;rintro e wC ⟨rfl,hkC,hrC⟩;have HwC:Hid (yE r g N w qn.2 #[.int .i64 0,.string ⟨#[]⟩,.slice none 0 0,.slice none 0 0,.slice none 0 0,.int .i64 t.line] wC):=HwB.out.moved hr hkC hrC;clear hkC hrC HwB;obtain ⟨n0,n1,n2,n3,n4,n5,nf⟩:=zp HwC.out.blkN;have HwC2:Hid (yE r g N w qn.2 #[.int .i64 1,.string (za qn.1),.slice none 0 0,.slice none 0 0,.slice none 0 0,.int .i64 t.line] ((wC.setCell ⟨N,0,none⟩ (.int .i64 1)).setCell ⟨N,1,none⟩ (.string (za qn.1)))):=(HwC.out.set hr hg 0 (.int .i64 1)).set hr hg 1 (.string (za qn.1));have cm:=yD r g qn.2 [61] _ HwC2.out.rd;go_wp2_with fail
 refine cm.mono ?_;clear cm n0 n1 n2 n3 n4 n5 nf;rintro e wD ⟨rfl,hkM,hrM⟩;have HwD:Hid (yE r g N w (mustF [61] qn.2) #[.int .i64 1,.string (za qn.1),.slice none 0 0,.slice none 0 0,.slice none 0 0,.int .i64 t.line] wD):=HwC2.out.moved hr hkM hrM;clear hkM hrM HwC HwC2;have ce:Calls Tryz.prog 139 #[.pointer (some ⟨r,0,none⟩),.int .i64 0] wD (Zo r g wD qe):=HEX.out F (Nat.le_refl _) 0 _ qe wD (by omega) hqe HwD.out.rd
 clear hqe;go_wp2_with fail
 refine ce.mono ?_;clear ce;rintro e wE ⟨hkE,v,rfl,hx,hrE⟩;obtain ⟨a,b,c,d0,d1,d2,l,rfl⟩:=hx.agg;have HwE:Hid (yE r g N w qe.2 #[.int .i64 1,.string (za qn.1),.slice none 0 0,.slice none 0 0,.slice none 0 0,.int .i64 t.line] wE):=HwD.out.moved hr hkE hrE;have hND:N<wD.heap.size:=(Array.getElem?_eq_some_iff.1 HwD.out.blkN).1;have hsE:=hkE.size;have hNE:N<wE.heap.size:=by omega
 obtain ⟨hF1,hF2⟩:=HwE.out.one (xs:=[.int .i64 a,.string b,.int .i64 c,.slice d0 d1 d2,.int .i64 l]) hr hg hx rfl hND hsE;obtain ⟨wF,hwF⟩:∃wF,wF=(wE.setCell ⟨N,2,none⟩ (.slice (some ⟨wE.heap.size,0,none⟩) 1 1)).alloc (.cells #[.int .i64 a,.string b,.int .i64 c,.slice d0 d1 d2,.int .i64 l] 45):=⟨_,rfl⟩;have HwF:Hid (yE r g N w qe.2 #[.int .i64 1,.string (za qn.1),.slice (some ⟨wE.heap.size,0,none⟩) 1 1,.slice none 0 0,.slice none 0 0,.int .i64 t.line] wF):=show yE _ _ _ _ _ _ _ by rw [hwF];exact hF1
 have HROW:Hid (zv (fun k=>wD.heap.size≤k) wF [qe.1] (.slice (some ⟨wE.heap.size,0,none⟩) 1 1)):=show zv _ _ _ _ by rw [hwF];exact hF2
 obtain ⟨g0,g1,g2,g3,g4,g5,gf⟩:=zp HwE.out.blkN;have g2':=ze g2;have gf2:wE.frozen? ⟨N,2,none⟩=false:=gf 2;have gf2':∀ob,(wE.alloc ob).frozen? ⟨N,2,none⟩=false:=fun ob=>(zp (HwE.out.alloc ob).blkN).2.2.2.2.2.2 2
 have hwF':=hwF.symm;clear hF1 hF2 hwF hkE hx hrE g0 g1 g3 g4 g5 gf;have cm:=yD r g qe.2 [59] _ HwF.out.rd;go_wp2_with fail
 refine cm.mono ?_;clear cm hwF' g2 g2' gf2 gf2';rintro e wG ⟨rfl,hkM,hrM⟩;have HwG:Hid (yE r g N w (mustF [59] qe.2) #[.int .i64 1,.string (za qn.1),.slice (some ⟨wE.heap.size,0,none⟩) 1 1,.slice none 0 0,.slice none 0 0,.int .i64 t.line] wG):=HwF.out.moved hr hkM hrM;have HROWG:Hid (zv (fun k=>wD.heap.size≤k) wG [qe.1] (.slice (some ⟨wE.heap.size,0,none⟩) 1 1)):=HROW.out.kept hkM.size fun k hk hlt=>hkM.block k hlt (by omega)
 clear hkM hrM HROW HwF;obtain ⟨n0,n1,n2,n3,n4,n5,nf⟩:=zp HwG.out.blkN;obtain ⟨x0,x1,x2,x3,x4,x5,xf⟩:=zp HwG.out.res;have hNe:¬ w.heap.size=N:=by have:=HwG.out.hN;omega
 have hCE:=HwG.out;obtain ⟨z0,z1,z2,z3,z4,z5,-⟩:=zp (zP hCE.res (.int .i64 1) (.string (za qn.1)) (.slice (some ⟨wE.heap.size,0,none⟩) 1 1) (.slice none 0 0) (.slice none 0 0) (.int .i64 t.line));have HP:Hid (yd r g w _ (.returned (.agg #[.int .i64 1,.string (za qn.1),.slice (some ⟨wE.heap.size,0,none⟩) 1 1,.slice none 0 0,.slice none 0 0,.int .i64 t.line])) (Yu wG w.heap.size (.int .i64 1) (.string (za qn.1)) (.slice (some ⟨wE.heap.size,0,none⟩) 1 1) (.slice none 0 0) (.slice none 0 0) (.int .i64 t.line))):=hCE.leave (B:=wD.heap.size) hr hg 1 qn.1 t.line (HROWG.out) (zD.nil _ _) (zD.nil _ _) (by omega)
 clear hCE;go_wp2
 exact bodyPost_ret (v:=.agg #[.int .i64 1,.string (za qn.1),.slice (some ⟨wE.heap.size,0,none⟩) 1 1,.slice none 0 0,.slice none 0 0,.int .i64 t.line]) (by simp [results,Tryz.results107,go_sem,z0,z1,z2,z3,z4,z5]) rfl HP.out
def UR (t:Tk):Prop:=t.s.length≤100000000∧t.n≤9223372036854775807
theorem UR.hd {ts:List Tk} (h:∀t∈ts,UR t):UR (zx ts):=by
 cases ts with
 | nil=>exact ⟨by simp [zx],by simp [zx]⟩
 | cons t us=>exact h t (List.mem_cons_self ..)
theorem vN {k:Nat} {s:List UInt8} {n:Int} {kids:List Ex} {line:Nat} (hs:s.length≤100000000) (h0:-9223372036854775808≤n) (h1:n≤9223372036854775807) (hk:okL kids=true):UP (.mk k s n kids line)=true:=by
 rw [UP]
 simp [hs,h0,h1,hk]
theorem XL {x:Ex} (h:UP x=true):okL [x]=true:=by simp [okL,h]
theorem zaP {x y:Ex} (h:UP x=true) (g:UP y=true):okL [x,y]=true:=by simp [okL,h,g]
theorem zgh {l:List Ex} {x:Ex} (h:okL l=true) (g:UP x=true):okL (l++[x])=true:=by
 induction l with
 | nil=>exact XL g
 | cons y ys ih =>
  rw [okL,Bool.and_eq_true] at h;rw [List.cons_append,okL,h.1,ih h.2];rfl
theorem uJ {s:List UInt8} {ts us:List Tk} (h:Yg ts=some (.ok (s,us))):s=(zx ts).s:=by
 unfold Yg at h
 split at h
 ·simp only [Option.some.injEq,Except.ok.injEq,Prod.mk.injEq] at h
  exact h.1.symm
 ·cases h
theorem zca (f:Nat) :
  (∀least ts x us,zk f least ts=some (.ok (x,us))→(∀t∈ts,UR t)→UP x=true)∧(∀least e ts x us,Z5 f least e ts=some (.ok (x,us))→(∀t∈ts,UR t)→UP e=true→UP x=true) ∧
  (∀ts x us,ZP f ts=some (.ok (x,us))→(∀t∈ts,UR t)→UP x=true)∧(∀e ts x us,zN f e ts=some (.ok (x,us))→(∀t∈ts,UR t)→UP e=true→UP x=true)∧(∀ts x us,Za f ts=some (.ok (x,us))→(∀t∈ts,UR t)→UP x=true) ∧
  (∀pre ts x us,Yh f pre ts=some (.ok (x,us))→(∀t∈ts,UR t)→okL pre=true→okL x=true)∧(∀ts x us,zR f ts=some (.ok (x,us))→(∀t∈ts,UR t)→okL x=true):=by
 induction f with
 | zero=>refine ⟨?_,?_,?_,?_,?_,?_,?_⟩ <;> intros <;> simp_all [zk,Z5,ZP,zN,Za,Yh,zR]
 | succ f ih =>
  obtain ⟨i1,i2,i3,i4,i5,i6,i7⟩:=ih;obtain ⟨j1,j2,j3,j4,j5,j6,j7⟩:=xu (P:=UR) f;refine ⟨fun least ts x us h hE=>?_,fun least e ts x us h hE he=>?_,fun ts x us h hE=>?_,fun e ts x us h hE he=>?_,fun ts x us h hE=>?_,fun pre ts x us h hE he=>?_,fun ts x us h hE=>?_⟩
  ·rw [zk] at h
   split at h
   ·exact i3 _ _ _ h hE
   ·obtain ⟨y,vs,h1,h2⟩:=zb h
    exact i2 _ _ _ _ _ h2 (j1 _ _ _ _ h1 hE) (i1 _ _ _ _ h1 hE)
  ·rw [Z5] at h
   split at h
   ·obtain ⟨y,vs,h1,h2⟩:=zb h
    exact i2 _ _ _ _ _ h2 (j1 _ _ _ _ h1 (zy hE)) (vN (UR.hd hE).1 (by omega) (by omega) (zaP he (i1 _ _ _ _ h1 (zy hE))))
   ·obtain ⟨rfl,rfl⟩:=zt h;exact he
  ·rw [ZP] at h
   split at h
   ·obtain ⟨y,vs,h1,h2⟩:=zb h
    obtain ⟨rfl,rfl⟩:=zt h2;exact vN (UR.hd hE).1 (by omega) (by omega) (XL (i3 _ _ _ h1 (zy hE)))
   ·obtain ⟨y,vs,h1,h2⟩:=zb h
    exact i4 _ _ _ _ h2 (j5 _ _ _ h1 hE) (i5 _ _ _ h1 hE)
  ·rw [zN] at h
   split at h
   ·obtain ⟨y,vs,h1,h2⟩:=zb h
    obtain ⟨z,xs,h3,h4⟩:=zb h2;exact i4 _ _ _ _ h4 (Zh h3 (j1 _ _ _ _ h1 (zy hE))) (vN (by simp) (by omega) (by omega) (zaP he (i1 _ _ _ _ h1 (zy hE))))
   split at h
   ·obtain ⟨y,vs,h1,h2⟩:=zb h
    exact i4 _ _ _ _ h2 (yC h1 (zy hE)) (vN (by rw [uJ h1];exact (UR.hd (zy hE)).1) (by omega) (by omega) (XL he))
   ·obtain ⟨rfl,rfl⟩:=zt h;exact he
  ·have h0:=UR.hd hE
   rw [Za] at h
   split at h
   ·obtain ⟨rfl,rfl⟩:=zt h;exact vN (by simp) (by omega) (by have:=h0.2;omega) rfl
   split at h
   ·obtain ⟨rfl,rfl⟩:=zt h;exact vN h0.1 (by omega) (by omega) rfl
   split at h
   ·split at h
    ·obtain ⟨y,vs,h1,h2⟩:=zb h
     obtain ⟨rfl,rfl⟩:=zt h2;exact vN h0.1 (by omega) (by omega) (i7 _ _ _ h1 (zy hE))
    ·obtain ⟨rfl,rfl⟩:=zt h;exact vN h0.1 (by omega) (by omega) rfl
   split at h
   ·obtain ⟨rfl,rfl⟩:=zt h;exact vN (by simp) (by omega) (by omega) rfl
   split at h
   ·obtain ⟨rfl,rfl⟩:=zt h;exact vN (by simp) (by omega) (by omega) rfl
   split at h
   ·obtain ⟨y,vs,h1,h2⟩:=zb h
    obtain ⟨z,xs,h3,h4⟩:=zb h2;obtain ⟨rfl,rfl⟩:=zt h4;exact vN (by rw [uJ h1];exact (UR.hd (zy hE)).1) (by omega) (by omega) (i7 _ _ _ h3 (yC h1 (zy hE)))
   split at h
   ·obtain ⟨y,vs,h1,h2⟩:=zb h
    obtain ⟨z,xs,h3,h4⟩:=zb h2;obtain ⟨rfl,rfl⟩:=zt h4;exact vN (by simp) (by omega) (by omega) (i6 _ _ _ _ h1 (zy hE) rfl)
   ·obtain ⟨y,vs,h1,h2⟩:=zb h
    obtain ⟨z,xs,h3,h4⟩:=zb h2;obtain ⟨z',xs',h5,h6⟩:=zb h4;obtain ⟨rfl,rfl⟩:=zt h6;exact i1 _ _ _ _ h3 (Zh h1 hE)
  ·rw [Yh] at h
   obtain ⟨y,vs,h1,h2⟩:=zb h;have hV:=j1 _ _ _ _ h1 hE;have hy:=zgh he (i1 _ _ _ _ h1 hE)
   split at h2
   ·exact i6 _ _ _ _ h2 (zy hV) hy
   ·obtain ⟨rfl,rfl⟩:=zt h2;exact hy
  ·rw [zR] at h
   obtain ⟨y,vs,h1,h2⟩:=zb h;have hV:=Zh h1 hE
   split at h2
   ·obtain ⟨rfl,rfl⟩:=zt h2;rfl
   ·obtain ⟨z,xs,h3,h4⟩:=zb h2
    obtain ⟨z',xs',h5,h6⟩:=zb h4;obtain ⟨rfl,rfl⟩:=zt h6;exact i6 _ _ _ _ h3 hV rfl
theorem ud {s:List UInt8}:∀{a:Nat} {ts:List Tk},zaz s a ts→∀t∈ts,zfN s t
 | _,[],_,t,h=>by cases h
 | _,u::us,hp,t,h=>by
  rcases List.mem_cons.1 h with rfl | h
  ·exact hp.2.1
  ·exact ud hp.2.2 t h
theorem Uz (l:List UInt8):∀t∈(zC l).1,UR t∧WdT t:=by
 intro t ht
 by_cases h:(zC l).2.2=0
 ·have hp:=ud ((XD l).2 h).2.1 t ht
  obtain ⟨-,-,hb,-,hn,hs⟩:=hp;refine ⟨⟨by omega,by omega⟩,fun h5=>?_⟩
  have hw:yZ t.s=true:=by
   have h2:=(Xn (by rw [h5];decide) (by rw [h5];decide)).1 hb
   rw [h5] at h2;rcases h2 with h2 | h2 | h2 | h2
   ·exact absurd h2.1 (by decide)
   ·exact absurd h2.1 (by decide)
   ·exact absurd h2.1 (by decide)
   ·exact h2.2.1
  have key:∀s,yZ s=true→s≠[45]∧s≠[33]:=fun s hs=>by
   constructor <;> (rintro rfl;revert hs;decide)
  exact key _ hw
 ·rw [(XD l).1 h] at ht
  cases ht
theorem XM {ops:Array Oper} {rest:List Oper} {o:Oper} {a:Act} {w:World} {Q:Exit→Act→World→Prop} (hgd:o.guard=none) (s x:Operand)
  (ho:o.op=.call { callee:=.builtin .append,args:=#[s,x],argTypes:=#[58,58] })
  (B:Nat) (v:Value) (n:Nat) (xs:List Value) (hs:a.eval s=v) (hown:w.ownsRow B 66 5 v n xs) (g:Nat) (cs:List Value) (hx:a.eval x=.slice (some ⟨g,0,none⟩) 1 1)
  (hcs:cs.length=5) (hone:∀u∈cs,u.oneCell'=true) (hc:∀j u,cs[j]?=some u→w.cell? ((⟨g,0,none⟩:Addr).add j)=some u) (hb:n≤1000000) (hB:B≤w.heap.size)
  (h:∀v' w',w'.ownsRow B 66 5 v' (n+1) (xs++cs)→w.grownBy w' v.ownBlock→wpList Tryz.prog ops Q rest (a.put o.dst v') w'):wpList Tryz.prog ops Q (o::rest) a w:=by
 obtain ⟨i0,hi,hz0,hz1,hz2⟩:=info_parts za3;refine wpList_append_own _ hgd s x 58 ho B 66 i0 _ 5 48 Tryz.underlying58 hi hz0 hz1 hz2 rfl (by decide) v n _ hs hown ⟨g,0,none⟩ 1 1 cs hx (by rw [hcs]) hc hone (by unfold maxLen;omega) (by omega) hB ?_
 intro v' w' ho' hg' _;exact h v' w' ho' hg'
theorem Xb (ts:List Tk) (k n line at0:Nat) (s:List UInt8):z8 (ts++[⟨k,s,n,line,at0⟩])=z8 ts++[.int .i64 k,.string (za s),.int .i64 n,.int .i64 line,.int .i64 at0]:=by
 rw [vQ];rfl
theorem zdf (l:List UInt8) (w:World) (hl:l.length≤4096) :
  Calls Tryz.prog 24 #[.string (za l)] w fun e w'=>∃(r:Value),e=.returned (.tuple #[r,.int .i64 (zC l).2.1,.int .i64 (zC l).2.2]) ∧
   w'.ownsRow w.heap.size 66 5 r (zC l).1.length (z8 (zC l).1)∧Below w.heap.size w w':=by
 have hsz:(za l).size=l.length:=rfl;have hbig:decide ((4096:Int)<(l.length:Int))=false:=by simp;omega
 go_enter Tryz.func24,Tryz.ntmps24
 go_wp2
 go_loopw [5,6,7] (fun vo vl va wr=>∃(f line at0:Nat) (pre:List Tk),vl=.int .i64 line∧va=.int .i64 at0∧at0≤l.length∧l.length<at0+f∧line≤at0+1∧pre.length≤at0∧zC l=YU pre (scanS l f line at0) ∧
   wr.ownsRow w.heap.size 66 5 vo pre.length (z8 pre)∧Below w.heap.size w wr) (fun _ _ va _=>l.length-(intOf va).toNat)
 case atStart=>exact ⟨l.length+1,1,0,[],rfl,rfl,Nat.zero_le _,by omega,by omega,Nat.le_refl _,by unfold zC;rw [if_neg (by omega),zeh],World.ownsRow_nil _ _ _ _,Below.refl _ _⟩
 case round =>
  obtain ⟨f,line,at0,pre,rfl,rfl,hat,hf,hln,hpn,hsc,hown,hbw⟩:=hrel;have HSC:Hid (zC l=YU pre (scanS l f line at0)):=hsc;have HO:Hid (wr.ownsRow w.heap.size 66 5 u5 pre.length (z8 pre)):=hown;have HB:Hid (Below w.heap.size w wr):=hbw;have hszw:=hbw.size;clear hsc hown hbw
  by_cases hlt:at0<l.length
  ·have hidx:=fun wx=>YO wx l at0 hlt
   obtain ⟨c,hc⟩:∃c,c=(l[at0]).toNat:=⟨_,rfl⟩;rw [←hc] at hidx;have hc256:c<256:=by rw [hc];exact UInt8.toNat_lt _
   have HC:Hid (c=(l[at0]).toNat):=hc;clear hc
   by_cases h10:c=10
   ·have HN:Hid (zC l=YU pre (scanS l f (line+1) (at0+1))):=by
     show _=_
     rw [HSC.out,vR f line hlt (by rw [←HC.out,h10];decide),if_pos (by rw [←HC.out];exact h10)]
    subst h10;go_wp2
    exact ⟨⟨f,line+1,at0+1,pre,by go_num,by go_num,by omega,by omega,by omega,by omega,HN.out,HO.out,HB.out⟩,by simp [intOf];omega⟩
   ·have h10b:((c:Int)==10)=false:=by rw [beq_eq_false_iff_ne];omega
    by_cases h32:c=32
    ·have HN:Hid (zC l=YU pre (scanS l f line (at0+1))):=by
      show _=_
      rw [HSC.out,vR f line hlt (by rw [←HC.out,h32];decide),if_neg (by rw [←HC.out];exact h10)]
     subst h32;go_wp2
     exact ⟨⟨f,line,at0+1,pre,by go_num,by go_num,by omega,by omega,by omega,by omega,HN.out,HO.out,HB.out⟩,by simp [intOf];omega⟩
    ·have h32b:((c:Int)==32)=false:=by rw [beq_eq_false_iff_ne];omega
     by_cases h9:c=9
     ·have HN:Hid (zC l=YU pre (scanS l f line (at0+1))):=by
       show _=_
       rw [HSC.out,vR f line hlt (by rw [←HC.out,h9];decide),if_neg (by rw [←HC.out];exact h10)]
      subst h9;go_wp2
      exact ⟨⟨f,line,at0+1,pre,by go_num,by go_num,by omega,by omega,by omega,by omega,HN.out,HO.out,HB.out⟩,by simp [intOf];omega⟩
     ·have h9b:((c:Int)==9)=false:=by rw [beq_eq_false_iff_ne];omega
      have hbl:Zj c=false:=by unfold Zj;simp [h10,h32,h9]
      have HDC:Hid (l.drop at0=l[at0]::l.drop (at0+1)):=List.drop_eq_getElem_cons hlt
      by_cases h47:c=47
      ·by_cases hend:at0+1<l.length
       ·have hidx2:=fun wx=>YO wx l (at0+1) hend
        have e1:((at0+1:Nat):Int)=(at0:Int)+1:=by omega
        simp only [e1] at hidx2;have hi2:(at0:Int)+1<l.length:=by omega
        have hrq:XO (l.drop at0)=decide ((l[at0+1]).toNat=47):=by
         rw [HDC.out,List.drop_eq_getElem_cons hend,uR,←HC.out,h47]
         simp
        obtain ⟨d,hd⟩:∃d,d=(l[at0+1]).toNat:=⟨_,rfl⟩;rw [←hd] at hidx2 hrq;clear hd e1
        by_cases hd47:d=47
        ·have hrm:XO (l.drop at0)=true:=by rw [hrq];exact decide_eq_true hd47
         subst h47;subst hd47;clear hrq;generalize wr=w1 at *;go_wp2
         clear hidx hidx2
         go_loopw [7] (fun va wr=>∃k:Nat,va=.int .i64 ((at0:Int)+k)∧at0+k≤l.length∧(∀j (h:at0+j<l.length),j<k→ZK (l[at0+j]).toNat=true)∧wr=w1) (fun va _=>l.length-(intOf va).toNat)
         case atStart=>exact ⟨0,by simp,by omega,fun j h hj=>by omega,rfl⟩
         case round =>
          obtain ⟨k,rfl,hk2,hall,rfl⟩:=hrel;have HAL:Hid (∀j (h:at0+j<l.length),j<k→ZK (l[at0+j]).toNat=true):=hall;clear hall
          by_cases hlt3:at0+k<l.length
          ·have hidx:=fun wx=>YO wx l (at0+k) hlt3
           have e1:((at0+k:Nat):Int)=(at0:Int)+k:=by omega
           simp only [e1] at hidx;have hi3:(at0:Int)+k<l.length:=by omega
           obtain ⟨d,hd⟩:∃d,d=(l[at0+k]).toNat:=⟨_,rfl⟩;rw [←hd] at hidx;have HD:Hid (d=(l[at0+k]).toNat):=hd;clear hd e1
           by_cases hd10:d=10
           ·have HLEN:Hid (yv ZK (l.drop at0)=k):=uT (p:=fun c=>ZK c.toNat) hk2 HAL.out (fun _=>by rw [←HD.out,hd10];rfl)
            subst hd10;have HRN:=HLEN;have hk1:2≤k:=by have:=Xf hrm;rw [HRN.out] at this;exact this
            have HN:Hid (zC l=YU pre (scanS l f line (at0+k))):=by
             show _=_
             rw [HSC.out,QL f line hrm,HRN.out]
            go_wp2
            exact ⟨⟨f,line,at0+k,pre,by go_num,by go_num,by omega,by omega,by omega,by omega,HN.out,HO.out,HB.out⟩,by simp [intOf];omega⟩
           ·have hd10b:((d:Int) != 10)=true:=by rw [bne_iff_ne];omega
            go_wp2
            refine ⟨⟨k+1,by go_num,by omega,fun j h hj=>?_,by first | rfl | trivial⟩,by simp [intOf];omega⟩
            by_cases hji:j<k
            ·exact HAL.out j h hji
            ·obtain rfl:j=k:=by omega
             rw [←HD.out];simp [ZK,hd10]
          ·have hi3:¬ (at0:Int)+k<l.length:=by omega
           have HLEN:Hid (yv ZK (l.drop at0)=k):=uT (p:=fun c=>ZK c.toNat) hk2 HAL.out (fun h=>absurd h (by omega))
           have HRN:=HLEN;have hk1:2≤k:=by have:=Xf hrm;rw [HRN.out] at this;exact this
           have HN:Hid (zC l=YU pre (scanS l f line (at0+k))):=by
            show _=_
            rw [HSC.out,QL f line hrm,HRN.out]
           go_wp2
           exact ⟨⟨f,line,at0+k,pre,by go_num,by go_num,by omega,by omega,by omega,by omega,HN.out,HO.out,HB.out⟩,by simp [intOf];omega⟩
        ·have hd47b:((d:Int)==47)=false:=by rw [beq_eq_false_iff_ne];omega
         have HRM:Hid (XO (l.drop at0)=false):=by show _=false;rw [hrq];exact decide_eq_false hd47
         clear hrq;subst h47;have hg0:Yn (l.drop at0)=0:=by rw [HDC.out];exact U3 (by rw [←HC.out];exact hbl) (by rw [←HDC.out];exact HRM.out)
         obtain ⟨f',rfl⟩:∃f',f=f'+1:=⟨f-1,by omega⟩
         have HTK:=uS f' line pre hg0 hlt;obtain ⟨R,hR⟩:∃R,R=Zc (l.drop at0):=⟨_,rfl⟩;rw [←hR] at HTK;have ct:=vy l at0 wr (by omega) hlt
         rw [←hR] at ct;have HTK1:Hid (R.e≠0→zC l=([],at0,R.e)):=fun h=>HSC.out.trans (HTK.1 h)
         have HTK2:Hid (R.e=0→zC l=YU (pre++[⟨R.k,R.s,R.n,line,at0⟩]) (scanS l f' line (at0+R.sz))∧1≤R.sz∧at0+R.sz≤l.length):=fun h=>⟨HSC.out.trans (HTK.2 h).1,(HTK.2 h).2⟩
         clear HTK hR hg0 HSC;go_wp2_with fail
         refine ct.mono ?_;clear ct hidx;rintro e w2 ⟨⟨v,rfl,K,N',X,s,rfl,hok⟩,hb2⟩;have HOK:Hid (R.e=0→K=R.k∧s=R.s∧N'=R.n∧X=at0+R.sz):=hok;have HB2:Hid (Below w.heap.size w w2):=HB.out.trans (hb2.mono hszw);have hsz2:w.heap.size≤w2.heap.size:=Nat.le_trans hszw hb2.size;have HO2:Hid (w2.ownsRow w.heap.size 66 5 u5 pre.length (z8 pre)):=Xg HO.out (fun k cur hk=>hb2.block k (Array.getElem?_eq_some_iff.1 hk).1)
         unfold Vx
         clear hok hb2 HO HB
         by_cases he:R.e=0
         ·obtain ⟨h1,h2,h3⟩:=HTK2.out he
          obtain ⟨k1,k2,k3,k4⟩:=HOK.out he
          have HSN:Hid (zC l=YU (pre++[⟨K,s,N',line,at0⟩]) (scanS l f' line X)):=by
           show _=_
           rw [h1,k1,k2,k3,k4]
          have hX1:at0+1≤X:=by omega
          have hX2:X≤l.length:=by omega
          rw [he];clear h1 h2 h3 k1 k2 k3 k4
          go_wp2_with (at_builtin;refine XM rfl _ _ rfl w.heap.size _ pre.length (z8 pre) rfl ((HO2.out.alloc _).alloc _) _ [.int .i64 K,.string (za s),.int .i64 N',.int .i64 line,.int .i64 at0] rfl rfl (by simp [Value.oneCell']) (fun j u hj=>by have h:=Zl (w2.alloc (.cells #[.int .i64 K,.string (za s),.int .i64 N',.int .i64 line,.int .i64 at0] 66)) _ 66 j u hj;rw [World.size_alloc] at h;exact h) (by omega) (by simp;omega) ?_;intro v4 w4 hown4 hgrow)
          have HB4:Hid (Below w.heap.size w w4):=((HB2.out.alloc hsz2 _).alloc (by simp;omega) _).grown hgrow (by simp;omega) (fun q hq=>(HO2.out.lt q hq).1)
          have HO4:Hid (w4.ownsRow w.heap.size 66 5 v4 (pre++[(⟨K,s,N',line,at0⟩:Tk)]).length (z8 (pre++[⟨K,s,N',line,at0⟩]))):=by
           show w4.ownsRow _ _ _ _ _ _
           rw [Xb,List.length_append];exact hown4
          exact ⟨⟨f',line,X,pre++[⟨K,s,N',line,at0⟩],by go_num,by go_num,by omega,by omega,by omega,by simp;omega,HSN.out,HO4.out,HB4.out⟩,by simp [intOf];omega⟩
         ·have heb:((R.e:Int) != 0)=true:=by rw [bne_iff_ne];omega
          have HE:=HTK1.out he;go_wp2
          refine bodyPost_ret (v:=.tuple #[.slice none 0 0,.int .i64 at0,.int .i64 R.e]) (by simp [results,Tryz.results24,go_sem]) rfl ⟨.slice none 0 0,by rw [HE],by rw [HE];exact World.ownsRow_nil _ _ _ _,?_⟩
          exact HB2.out.alloc hsz2 _
       ·have hi2:¬ (at0:Int)+1<l.length:=by omega
        have HRM:Hid (XO (l.drop at0)=false):=by
         show _=false
         rw [HDC.out,List.drop_of_length_le (by omega),uR]
         simp
        subst h47;have hg0:Yn (l.drop at0)=0:=by rw [HDC.out];exact U3 (by rw [←HC.out];exact hbl) (by rw [←HDC.out];exact HRM.out)
        obtain ⟨f',rfl⟩:∃f',f=f'+1:=⟨f-1,by omega⟩
        have HTK:=uS f' line pre hg0 hlt;obtain ⟨R,hR⟩:∃R,R=Zc (l.drop at0):=⟨_,rfl⟩;rw [←hR] at HTK;have ct:=vy l at0 wr (by omega) hlt
        rw [←hR] at ct;have HTK1:Hid (R.e≠0→zC l=([],at0,R.e)):=fun h=>HSC.out.trans (HTK.1 h)
        have HTK2:Hid (R.e=0→zC l=YU (pre++[⟨R.k,R.s,R.n,line,at0⟩]) (scanS l f' line (at0+R.sz))∧1≤R.sz∧at0+R.sz≤l.length):=fun h=>⟨HSC.out.trans (HTK.2 h).1,(HTK.2 h).2⟩
        clear HTK hR hg0 HSC;go_wp2_with fail
        refine ct.mono ?_;clear ct hidx;rintro e w2 ⟨⟨v,rfl,K,N',X,s,rfl,hok⟩,hb2⟩;have HOK:Hid (R.e=0→K=R.k∧s=R.s∧N'=R.n∧X=at0+R.sz):=hok;have HB2:Hid (Below w.heap.size w w2):=HB.out.trans (hb2.mono hszw);have hsz2:w.heap.size≤w2.heap.size:=Nat.le_trans hszw hb2.size;have HO2:Hid (w2.ownsRow w.heap.size 66 5 u5 pre.length (z8 pre)):=Xg HO.out (fun k cur hk=>hb2.block k (Array.getElem?_eq_some_iff.1 hk).1)
        unfold Vx
        clear hok hb2 HO HB
        by_cases he:R.e=0
        ·obtain ⟨h1,h2,h3⟩:=HTK2.out he
         obtain ⟨k1,k2,k3,k4⟩:=HOK.out he
         have HSN:Hid (zC l=YU (pre++[⟨K,s,N',line,at0⟩]) (scanS l f' line X)):=by
          show _=_
          rw [h1,k1,k2,k3,k4]
         have hX1:at0+1≤X:=by omega
         have hX2:X≤l.length:=by omega
         rw [he];clear h1 h2 h3 k1 k2 k3 k4
         go_wp2_with (at_builtin;refine XM rfl _ _ rfl w.heap.size _ pre.length (z8 pre) rfl ((HO2.out.alloc _).alloc _) _ [.int .i64 K,.string (za s),.int .i64 N',.int .i64 line,.int .i64 at0] rfl rfl (by simp [Value.oneCell']) (fun j u hj=>by have h:=Zl (w2.alloc (.cells #[.int .i64 K,.string (za s),.int .i64 N',.int .i64 line,.int .i64 at0] 66)) _ 66 j u hj;rw [World.size_alloc] at h;exact h) (by omega) (by simp;omega) ?_;intro v4 w4 hown4 hgrow)
         have HB4:Hid (Below w.heap.size w w4):=((HB2.out.alloc hsz2 _).alloc (by simp;omega) _).grown hgrow (by simp;omega) (fun q hq=>(HO2.out.lt q hq).1)
         have HO4:Hid (w4.ownsRow w.heap.size 66 5 v4 (pre++[(⟨K,s,N',line,at0⟩:Tk)]).length (z8 (pre++[⟨K,s,N',line,at0⟩]))):=by
          show w4.ownsRow _ _ _ _ _ _
          rw [Xb,List.length_append];exact hown4
         exact ⟨⟨f',line,X,pre++[⟨K,s,N',line,at0⟩],by go_num,by go_num,by omega,by omega,by omega,by simp;omega,HSN.out,HO4.out,HB4.out⟩,by simp [intOf];omega⟩
        ·have heb:((R.e:Int) != 0)=true:=by rw [bne_iff_ne];omega
         have HE:=HTK1.out he;go_wp2
         refine bodyPost_ret (v:=.tuple #[.slice none 0 0,.int .i64 at0,.int .i64 R.e]) (by simp [results,Tryz.results24,go_sem]) rfl ⟨.slice none 0 0,by rw [HE],by rw [HE];exact World.ownsRow_nil _ _ _ _,?_⟩
         exact HB2.out.alloc hsz2 _
      ·have h47b:((c:Int)==47)=false:=by rw [beq_eq_false_iff_ne];omega
       have HRM:Hid (XO (l.drop at0)=false):=by
        show _=false
        rw [HDC.out,uR,←HC.out]
        simp [h47]
       have hg0:Yn (l.drop at0)=0:=by rw [HDC.out];exact U3 (by rw [←HC.out];exact hbl) (by rw [←HDC.out];exact HRM.out)
       obtain ⟨f',rfl⟩:∃f',f=f'+1:=⟨f-1,by omega⟩
       have HTK:=uS f' line pre hg0 hlt;obtain ⟨R,hR⟩:∃R,R=Zc (l.drop at0):=⟨_,rfl⟩;rw [←hR] at HTK;have ct:=vy l at0 wr (by omega) hlt
       rw [←hR] at ct;have HTK1:Hid (R.e≠0→zC l=([],at0,R.e)):=fun h=>HSC.out.trans (HTK.1 h)
       have HTK2:Hid (R.e=0→zC l=YU (pre++[⟨R.k,R.s,R.n,line,at0⟩]) (scanS l f' line (at0+R.sz))∧1≤R.sz∧at0+R.sz≤l.length):=fun h=>⟨HSC.out.trans (HTK.2 h).1,(HTK.2 h).2⟩
       clear HTK hR hg0 HSC;go_wp2_with fail
       refine ct.mono ?_;clear ct hidx;rintro e w2 ⟨⟨v,rfl,K,N',X,s,rfl,hok⟩,hb2⟩;have HOK:Hid (R.e=0→K=R.k∧s=R.s∧N'=R.n∧X=at0+R.sz):=hok;have HB2:Hid (Below w.heap.size w w2):=HB.out.trans (hb2.mono hszw);have hsz2:w.heap.size≤w2.heap.size:=Nat.le_trans hszw hb2.size;have HO2:Hid (w2.ownsRow w.heap.size 66 5 u5 pre.length (z8 pre)):=Xg HO.out (fun k cur hk=>hb2.block k (Array.getElem?_eq_some_iff.1 hk).1)
       unfold Vx
       clear hok hb2 HO HB
       by_cases he:R.e=0
       ·obtain ⟨h1,h2,h3⟩:=HTK2.out he
        obtain ⟨k1,k2,k3,k4⟩:=HOK.out he
        have HSN:Hid (zC l=YU (pre++[⟨K,s,N',line,at0⟩]) (scanS l f' line X)):=by
         show _=_
         rw [h1,k1,k2,k3,k4]
        have hX1:at0+1≤X:=by omega
        have hX2:X≤l.length:=by omega
        rw [he];clear h1 h2 h3 k1 k2 k3 k4
        go_wp2_with (at_builtin;refine XM rfl _ _ rfl w.heap.size _ pre.length (z8 pre) rfl ((HO2.out.alloc _).alloc _) _ [.int .i64 K,.string (za s),.int .i64 N',.int .i64 line,.int .i64 at0] rfl rfl (by simp [Value.oneCell']) (fun j u hj=>by have h:=Zl (w2.alloc (.cells #[.int .i64 K,.string (za s),.int .i64 N',.int .i64 line,.int .i64 at0] 66)) _ 66 j u hj;rw [World.size_alloc] at h;exact h) (by omega) (by simp;omega) ?_;intro v4 w4 hown4 hgrow)
        have HB4:Hid (Below w.heap.size w w4):=((HB2.out.alloc hsz2 _).alloc (by simp;omega) _).grown hgrow (by simp;omega) (fun q hq=>(HO2.out.lt q hq).1)
        have HO4:Hid (w4.ownsRow w.heap.size 66 5 v4 (pre++[(⟨K,s,N',line,at0⟩:Tk)]).length (z8 (pre++[⟨K,s,N',line,at0⟩]))):=by
         show w4.ownsRow _ _ _ _ _ _
         rw [Xb,List.length_append];exact hown4
        exact ⟨⟨f',line,X,pre++[⟨K,s,N',line,at0⟩],by go_num,by go_num,by omega,by omega,by omega,by simp;omega,HSN.out,HO4.out,HB4.out⟩,by simp [intOf];omega⟩
       ·have heb:((R.e:Int) != 0)=true:=by rw [bne_iff_ne];omega
        have HE:=HTK1.out he;go_wp2
        refine bodyPost_ret (v:=.tuple #[.slice none 0 0,.int .i64 at0,.int .i64 R.e]) (by simp [results,Tryz.results24,go_sem]) rfl ⟨.slice none 0 0,by rw [HE],by rw [HE];exact World.ownsRow_nil _ _ _ _,?_⟩
        exact HB2.out.alloc hsz2 _
  ·obtain rfl:at0=l.length:=by omega
   obtain ⟨f',rfl⟩:∃f',f=f'+1:=⟨f-1,by omega⟩
   have HE:Hid (zC l=(pre++[⟨0,[],0,line,l.length⟩],0,0)):=HSC.out.trans (zei l f' line pre);clear HSC
   go_wp2_with (at_builtin;refine XM rfl _ _ rfl w.heap.size _ pre.length (z8 pre) rfl (HO.out.alloc _) _ [.int .i64 0,.string ⟨#[]⟩,.int .i64 0,.int .i64 line,.int .i64 l.length] rfl rfl (by simp [Value.oneCell']) (Zl _ _ _) (by omega) (by simp;omega) ?_;intro v4 w4 hown4 hgrow)
   have HB4:Hid (Below w.heap.size w w4):=(HB.out.alloc hszw _).grown hgrow (by simp;omega) (fun q hq=>(HO.out.lt q hq).1)
   have E:=HE.out;refine bodyPost_ret (v:=.tuple #[v4,.int .i64 0,.int .i64 0]) (by simp [results,Tryz.results24,go_sem]) rfl ⟨v4,by rw [E];rfl,?_,HB4.out⟩
   rw [E];show w4.ownsRow _ _ _ _ (pre++[_]).length _
   rw [Xb,List.length_append];exact hown4
theorem zcb (l:List UInt8) (w:World) :
  Calls Tryz.prog 24 #[.string (za l)] w fun e w'=>∃(r:Value),e=.returned (.tuple #[r,.int .i64 (zC l).2.1,.int .i64 (zC l).2.2]) ∧
   w'.ownsRow w.heap.size 66 5 r (zC l).1.length (z8 (zC l).1)∧Below w.heap.size w w':=by
 by_cases h:4096<l.length
 ·have HS:Hid (zC l=([],0,5)):=if_pos h
  have hsz:(za l).size=l.length:=rfl;have hbig:decide ((4096:Int)<(l.length:Int))=true:=by simp;omega
  go_enter Tryz.func24,Tryz.ntmps24
  go_wp2
  have E:=HS.out;exact bodyPost_ret (v:=.tuple #[.slice none 0 0,.int .i64 0,.int .i64 5]) (by simp [results,Tryz.results24,go_sem]) rfl ⟨.slice none 0 0,by rw [E];rfl,by rw [E];exact World.ownsRow_nil _ _ _ _,Below.refl _ _⟩
 ·exact zdf l w (by omega)
mutual
theorem zha:∀x:Ex,dpE (exz x)=z6 x
 | .mk k s n kids line=>by rw [exz,dpE,z6,zdO kids,Nat.add_comm]
theorem zdO:∀l:List Ex,Vh (v8 l)=depthL l
 | []=>by rw [v8,Vh,depthL]
 | x::xs=>by rw [v8,Vh,depthL,zha x,zdO xs]
end
end Go.Proofs.YtpejpbbdgblbeaaGreatDoor
