import Derived.Test.YtmbofhpmockmbaaGreatDoorMC26
import Derived.Test.YtmbofhpmockmbaaGreatDoorSSingle
import Derived.Test.YtmbofhpmockmbaaGreatDoorSSingle2
import Derived.Test.YtmbofhpmockmbaaGreatDoorSSingle4
import Derived.Test.YtmbofhpmockmbaaGreatDoorSBetween2
import Derived.Test.YtmbofhpmockmbaaGreatDoorSParts
namespace Go.Proofs.YtmbofhpmockmbaaGreatDoor
open Go.RowKit Go.Shelf
structure YR (r g f:Nat):Prop where
 between:∀least w o cap ts res,zd f least ts=some res→zk ts→zc r g o cap ts w→yc w→Calls Tryz.prog 98 #[.pointer (some ⟨r,0,none⟩),.int .i64 (least:Nat)] w (zl r g w res)
 unary:∀w o cap ts res,Zc f ts=some res→zk ts→zc r g o cap ts w→yc w→Calls Tryz.prog 119 #[.pointer (some ⟨r,0,none⟩)] w (zl r g w res)
 single:∀w o cap ts res,zx f ts=some res→zk ts→zc r g o cap ts w→yc w→Calls Tryz.prog 168 #[.pointer (some ⟨r,0,none⟩)] w (zl r g w res)
 row:∀w o cap ts res,ZQ f [] ts=some res→zk ts→zc r g o cap ts w→yc w→Calls Tryz.prog 178 #[.pointer (some ⟨r,0,none⟩),.func (.func 74) #[.pointer (some ⟨r,0,none⟩)] #[]] w (Yl r g w res)
 brackets:∀w o cap ts res,zy f ts=some res→zk ts→zc r g o cap ts w→yc w→Calls Tryz.prog 177 #[.pointer (some ⟨r,0,none⟩),.func (.func 74) #[.pointer (some ⟨r,0,none⟩)] #[]] w (Yl r g w res)
theorem YR.expr {r g f:Nat} (C:YR r g f) (hrl:r≠5) (w:World) (o cap:Nat) (ts:List Tk) (res:PR Ex) (hp:zd f 1 ts=some res) (hE:zk ts) (h:zc r g o cap ts w) (hl:yc w) :
  Calls Tryz.prog 74 #[.pointer (some ⟨r,0,none⟩)] w (zl r g w res):=by
 obtain ⟨t,y,rfl⟩:=hE.cons;exact qn r g w res h.lt.1 h.lt.2 (C.between 1 _ o cap _ res hp hE (h.alloc _) (hl.kept ((zb.refl r w).alloc _) hrl))
theorem ZT {α β:Type} {x:Option (PR α)} {k:α→List Tk→Option (PR β)} {r:PR β} (h:zp x k=some r):∃r1,x=some r1:=by
 cases x with
 | none=>cases h
 | some r1=>exact ⟨r1,rfl⟩
theorem YR.next {r g f:Nat} (hrl:r≠5) (C:YR r g f)
  (HB:∀o cap least ts w res,zc r g o cap ts w→zk ts→yc w→least≤6→zd (f+1) least ts=some res→Calls Tryz.prog 98 #[.pointer (some ⟨r,0,none⟩),.int .i64 (least:Nat)] w (zl r g w res))
  (HW:∀o cap ts w res,zc r g o cap ts w→zk ts→yc w→zp (zx f ts) (fun e ts=>zn f e ts)=some res→Calls Tryz.prog 147 #[.pointer (some ⟨r,0,none⟩)] w (zl r g w res)):YR r g (f+1) where
 between:=fun least w o cap ts res hp hE h hl=>by
  by_cases h6:6<least
  ·obtain ⟨t,A,rfl⟩:=hE.cons
   rw [zd,if_pos h6] at hp;exact Vv r g least w res h.lt.1 h.lt.2 h6 (C.unary _ o cap _ res hp hE (h.alloc _) (hl.kept ((zb.refl r w).alloc _) hrl))
  ·exact HB o cap least ts w res h hE hl (by omega) hp
 unary:=fun w o cap ts res hp hE h hl=>by
  obtain ⟨t,A,rfl⟩:=hE.cons;rw [Zc] at hp;simp only [zH,List.tail_cons] at hp
  by_cases hs:t.k=4∧(t.s=[45]∨t.s=[33])
  ·rw [if_pos hs] at hp
   obtain ⟨z,E⟩:=ZT hp;have y:=hE.tail (by omega:t.k≠0)
   have O:=XQ r g o cap t A w z h hE hs.1 (by simpa using hs.2) fun w1 o1 cap1 hR hK=>C.unary w1 o1 cap1 A z E y hR (hl.kept hK hrl)
   have D:xE t z=res:=by
    rw [E] at hp;rcases z with a | ⟨x,J⟩ <;> simpa [zp,xE] using hp
   rw [←D];exact O
  ·rw [if_neg hs] at hp
   exact vM r g o cap t A w res h hs fun w1 hR hK=>HW o cap _ w1 res hR hE (hl.kept hK hrl) hp
 row:=fun w o cap ts res hp hE h hl=>qG r g o cap f ts w res h hE h.few hp fun w1 o1 cap1 ts1 z G y _ hR hK=>C.expr hrl w1 o1 cap1 ts1 z G y hR (hl.kept hK hrl)
 brackets:=fun w o cap ts res hp hE h hl=>by
  obtain ⟨t,A,rfl⟩:=hE.cons;rw [zy] at hp;simp only [Zr,zH,List.tail_cons] at hp
  by_cases hi:zq t [40]=true
  ·rw [if_pos hi] at hp
   simp only [zp] at hp;have y:=hE.tail (zi hi)
   by_cases hj:zq (zT A) [41]=true
   ·rw [if_pos hj] at hp
    have D:ZG t A (.error 0)=res:=by unfold ZG;rw [if_pos hi,if_pos hj];simpa using hp
    rw [←D];exact Ys r g o cap _ t A w (.error 0) h hE (fun _ _ h=>by cases h) fun _ hj'=>by rw [hj] at hj';cases hj'
   ·rw [if_neg hj] at hp
    change zp (ZQ f [] A) _=some res at hp
    obtain ⟨z,E⟩:=ZT hp
    have D:ZG t A z=res:=by
     unfold ZG
     rw [if_pos hi,if_neg hj];rw [E] at hp;rcases z with a | ⟨l,J⟩
     ·simpa [zp] using hp
     ·simp only [zp] at hp
      by_cases hk:zq (zT J) [41]=true
      ·simpa [hk] using hp
      ·simpa [hk] using hp
    rw [←D];exact Ys r g o cap _ t A w z h hE (fun l J he=>by subst he;exact (Zd f).2.2.2.2.2.1 _ _ _ _ E y) fun _ _ w1 o1 cap1 hR hK=>C.row w1 o1 cap1 A z E y hR (hl.kept hK hrl)
  ·rw [if_neg hi] at hp
   have D:ZG t A (.error 0)=res:=by unfold ZG;rw [if_neg hi];exact Option.some.inj hp
   rw [←D];exact Ys r g o cap _ t A w (.error 0) h hE (fun _ _ h=>by cases h) fun hi'=>absurd hi' hi
 single:=fun w o cap ts res hp hE h hl=>by
  obtain ⟨t,A,rfl⟩:=hE.cons;rw [zx] at hp;simp only [zH,List.tail_cons] at hp
  by_cases h2:t.k=2
  ·rw [if_pos h2] at hp
   simp only [Option.some.injEq] at hp;subst hp;exact vH r g o cap t A w h h2 (hE.tail (by omega)).ne
  ·rw [if_neg h2] at hp
   by_cases h3:t.k=3
   ·rw [if_pos h3] at hp
    simp only [Option.some.injEq] at hp;subst hp;exact vI r g o cap t A w h h3 (hE.tail (by omega)).ne
   ·rw [if_neg h3] at hp
    by_cases E:t.k=1
    ·rw [if_pos E] at hp
     have y:=hE.tail (by omega:t.k≠0)
     obtain ⟨u,J,rfl⟩:=y.cons;refine XR r g o cap t (u::J) w res h E fun w1 hR hK=>?_
     simp only [zH] at hp
     by_cases hi:zq u [40]=true
     ·rw [if_pos hi] at hp
      obtain ⟨z,G⟩:=ZT hp
      have D:VZ t z=res:=by
       rw [G] at hp;rcases z with a | ⟨l,L⟩ <;> simpa [zp,VZ] using hp
      rw [←D];exact Vu r g o cap t u J w1 z hR E hi fun w2 o2 cap2 hR2 hK2=>C.brackets w2 o2 cap2 _ z G y hR2 ((hl.kept hK hrl).kept hK2 hrl)
     ·rw [if_neg hi] at hp
      simp only [Option.some.injEq] at hp;subst hp;exact vL r g o cap t u J w1 hR E (by simpa using hi)
    ·rw [if_neg E] at hp
     by_cases hT:zq t [116,114,117,101]=true
     ·rw [if_pos hT] at hp
      simp only [Option.some.injEq] at hp;subst hp;exact XS r g o cap t A w hT h hE E h2 h3
     ·rw [if_neg hT] at hp
      have H:zq t [116,114,117,101]=false:=by simpa using hT
      by_cases hF:zq t [102,97,108,115,101]=true
      ·rw [if_pos hF] at hp
       simp only [Option.some.injEq] at hp;subst hp;exact Xa r g o cap t A w hF h hE E h2 h3 H
      ·rw [if_neg hF] at hp
       have I:zq t [102,97,108,115,101]=false:=by simpa using hF
       by_cases hN:zq t [110,101,119]=true
       ·rw [if_pos hN] at hp
        have y:=hE.tail (zi hN);obtain ⟨u,J,rfl⟩:=y.cons;simp only [YB,zH,List.tail_cons] at hp
        by_cases hk:u.k=1
        ·rw [if_pos hk] at hp
         change zp (zy f J) _=some res at hp
         obtain ⟨z,G⟩:=ZT hp
         have D:XT t u z=res:=by
          unfold XT
          rw [if_pos hk];rw [G] at hp;rcases z with a | ⟨l,L⟩ <;> simpa [zp] using hp
         rw [←D];exact Y0 r g o cap t u J w z hN (fun _ w2 o2 cap2 hR2 hK2=>C.brackets w2 o2 cap2 _ z G (y.tail (by omega)) hR2 (hl.kept hK2 hrl)) h hE E h2 h3 H I
        ·rw [if_neg hk] at hp
         have D:XT t u (.error 0)=res:=by unfold XT;rw [if_neg hk];simpa [zp] using hp
         rw [←D];exact Y0 r g o cap t u J w (.error 0) hN (fun hk'=>absurd hk' hk) h hE E h2 h3 H I
       ·rw [if_neg hN] at hp
        have K:zq t [110,101,119]=false:=by simpa using hN
        by_cases hA:zq t [91]=true
        ·rw [if_pos hA] at hp
         have y:=hE.tail (zi hA);obtain ⟨z,G⟩:=ZT hp
         have D:Yr t z=res:=by
          unfold Yr
          rw [G] at hp;rcases z with a | ⟨l,L⟩
          ·simpa [zp] using hp
          ·simp only [zp,Zr] at hp
           by_cases hk:zq (zT L) [93]=true
           ·simpa [hk] using hp
           ·simpa [hk] using hp
         rw [←D];exact Xb r g o cap t A w z hA (fun l L he=>by subst he;exact (Zd f).2.2.2.2.2.1 _ _ _ _ G y) (fun w2 o2 cap2 hR2 hK2=>C.row w2 o2 cap2 _ z G y hR2 (hl.kept hK2 hrl)) h hE E h2 h3 H I K
        ·rw [if_neg hA] at hp
         have M:zq t [91]=false:=by simpa using hA
         simp only [Zr,zH,List.tail_cons] at hp
         by_cases hP:zq t [40]=true
         ·rw [if_pos hP] at hp
          change zp (zd f 1 A) _=some res at hp
          have y:=hE.tail (zi hP);obtain ⟨z,G⟩:=ZT hp
          have D:yt t z=res:=by
           unfold yt
           rw [if_pos hP];rw [G] at hp;rcases z with a | ⟨l,L⟩
           ·simpa [zp] using hp
           ·simp only [zp] at hp
            by_cases hk:zq (zT L) [41]=true
            ·simpa [hk] using hp
            ·simpa [hk] using hp
          rw [←D];exact Yk r g o cap t A w z (fun l L he=>by subst he;exact (Zd f).1 _ _ _ _ G y) (fun _ w2 o2 cap2 hR2 hK2=>C.expr hrl w2 o2 cap2 _ z G y hR2 (hl.kept hK2 hrl)) h hE E h2 h3 H I K M
         ·rw [if_neg hP] at hp
          have D:yt t (.error 0)=res:=by unfold yt;rw [if_neg hP];simpa [zp] using hp
          rw [←D];exact Yk r g o cap t A w (.error 0) (fun _ _ h=>by cases h) (fun hP'=>absurd hP' hP) h hE E h2 h3 H I K M
theorem qo (r g:Nat) (hrl:r≠5):∀f,YR r g f:=by
 intro f
 induction f with
 | zero=>exact ⟨fun _ _ _ _ _ _ h=>by simp [zd] at h,fun _ _ _ _ _ h=>by simp [Zc] at h,fun _ _ _ _ _ h=>by simp [zx] at h,fun _ _ _ _ _ h=>by simp [ZQ] at h,fun _ _ _ _ _ h=>by simp [zy] at h⟩
 | succ f C =>
  refine C.next hrl (fun o cap least ts w res h hE hl h6 hp=>?_) (fun o cap ts w res h hE hl hp=>?_)
  ·refine uz r g o cap f least ts w res h hE h.few hl hrl h6 hp fun w1 o1 cap1 ts1 r1 hb hE1 _ hR hK=>?_
   have:=C.between (least+1) w1 o1 cap1 ts1 r1 hb hE1 hR (hl.kept hK hrl)
   simpa using this
  ·exact UW r g o cap f ts w res h hE hp (fun w1 o1 cap1 ts1 r1 hb hE1 hR hK=>C.single w1 o1 cap1 ts1 r1 hb hE1 hR (hl.kept hK hrl)) fun w1 o1 cap1 ts1 r1 hb hE1 hR hK=>C.expr hrl w1 o1 cap1 ts1 r1 hb hE1 hR (hl.kept hK hrl)
end Go.Proofs.YtmbofhpmockmbaaGreatDoor
