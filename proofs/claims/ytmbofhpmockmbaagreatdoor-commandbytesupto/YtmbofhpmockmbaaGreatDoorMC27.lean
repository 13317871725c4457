import Derived.Test.YtmbofhpmockmbaaGreatDoorMC22
import Derived.Test.YtmbofhpmockmbaaGreatDoorSSingle
import Derived.Test.YtmbofhpmockmbaaGreatDoorSSingle2
import Derived.Test.YtmbofhpmockmbaaGreatDoorSSingle4
import Derived.Test.YtmbofhpmockmbaaGreatDoorSBetween2
import Derived.Test.YtmbofhpmockmbaaGreatDoorSParts
namespace Go.Proofs.YtmbofhpmockmbaaGreatDoor
open Go.RowKit Go.Shelf
structure Yp (r g f:Nat):Prop where
 between:∀least w o cap ts res,zd f least ts=some res→zj ts→zc r g o cap ts w→Z2 w→Calls Tryz.prog 98 #[.pointer (some ⟨r,0,none⟩),.int .i64 (least:Nat)] w (zk r g w res)
 unary:∀w o cap ts res,zW f ts=some res→zj ts→zc r g o cap ts w→Z2 w→Calls Tryz.prog 119 #[.pointer (some ⟨r,0,none⟩)] w (zk r g w res)
 single:∀w o cap ts res,zw f ts=some res→zj ts→zc r g o cap ts w→Z2 w→Calls Tryz.prog 168 #[.pointer (some ⟨r,0,none⟩)] w (zk r g w res)
 row:∀w o cap ts res,ZJ f [] ts=some res→zj ts→zc r g o cap ts w→Z2 w→Calls Tryz.prog 178 #[.pointer (some ⟨r,0,none⟩),.func (.func 74) #[.pointer (some ⟨r,0,none⟩)] #[]] w (y3 r g w res)
 brackets:∀w o cap ts res,zx f ts=some res→zj ts→zc r g o cap ts w→Z2 w→Calls Tryz.prog 177 #[.pointer (some ⟨r,0,none⟩),.func (.func 74) #[.pointer (some ⟨r,0,none⟩)] #[]] w (y3 r g w res)
theorem Yp.expr {r g f:Nat} (C:Yp r g f) (hrl:r≠5) (w:World) (o cap:Nat) (ts:List Tk) (res:PR Ex) (hp:zd f 1 ts=some res) (hE:zj ts) (h:zc r g o cap ts w) (hl:Z2 w) :
  Calls Tryz.prog 74 #[.pointer (some ⟨r,0,none⟩)] w (zk r g w res):=by
 obtain ⟨t,e,rfl⟩:=hE.cons;exact UI r g w res h.lt.1 h.lt.2 (C.between 1 _ o cap _ res hp hE (h.alloc _) (hl.kept ((zb.refl r w).alloc _) hrl))
theorem ZM {α β:Type} {x:Option (PR α)} {k:α→List Tk→Option (PR β)} {r:PR β} (h:zo x k=some r):∃r1,x=some r1:=by
 cases x with
 | none=>cases h
 | some r1=>exact ⟨r1,rfl⟩
theorem Yp.next {r g f:Nat} (hrl:r≠5) (C:Yp r g f)
  (HB:∀o cap least ts w res,zc r g o cap ts w→zj ts→Z2 w→least≤6→zd (f+1) least ts=some res→Calls Tryz.prog 98 #[.pointer (some ⟨r,0,none⟩),.int .i64 (least:Nat)] w (zk r g w res))
  (HW:∀o cap ts w res,zc r g o cap ts w→zj ts→Z2 w→zo (zw f ts) (fun e ts=>zm f e ts)=some res→Calls Tryz.prog 147 #[.pointer (some ⟨r,0,none⟩)] w (zk r g w res)):Yp r g (f+1) where
 between:=fun least w o cap ts res hp hE h hl=>by
  by_cases h6:6<least
  ·obtain ⟨t,A,rfl⟩:=hE.cons
   rw [zd,if_pos h6] at hp;exact vG r g least w res h.lt.1 h.lt.2 h6 (C.unary _ o cap _ res hp hE (h.alloc _) (hl.kept ((zb.refl r w).alloc _) hrl))
  ·exact HB o cap least ts w res h hE hl (by omega) hp
 unary:=fun w o cap ts res hp hE h hl=>by
  obtain ⟨t,A,rfl⟩:=hE.cons;rw [zW] at hp;simp only [zG,List.tail_cons] at hp
  by_cases hs:t.k=4∧(t.s=[45]∨t.s=[33])
  ·rw [if_pos hs] at hp
   obtain ⟨z,E⟩:=ZM hp;have y:=hE.tail (by omega:t.k≠0)
   have N:=Xi r g o cap t A w z h hE hs.1 (by simpa using hs.2) fun w1 o1 cap1 hR hK=>C.unary w1 o1 cap1 A z E y hR (hl.kept hK hrl)
   have D:xd t z=res:=by
    rw [E] at hp;rcases z with a | ⟨x,I⟩ <;> simpa [zo,xd] using hp
   rw [←D];exact N
  ·rw [if_neg hs] at hp
   exact XZ r g o cap t A w res h hs fun w1 hR hK=>HW o cap _ w1 res hR hE (hl.kept hK hrl) hp
 row:=fun w o cap ts res hp hE h hl=>UY r g o cap f ts w res h hE h.few hp fun w1 o1 cap1 ts1 z G y _ hR hK=>C.expr hrl w1 o1 cap1 ts1 z G y hR (hl.kept hK hrl)
 brackets:=fun w o cap ts res hp hE h hl=>by
  obtain ⟨t,A,rfl⟩:=hE.cons;rw [zx] at hp;simp only [Zj,zG,List.tail_cons] at hp
  by_cases hi:zp t [40]=true
  ·rw [if_pos hi] at hp
   simp only [zo] at hp;have y:=hE.tail (zf hi)
   by_cases hj:zp (zM A) [41]=true
   ·rw [if_pos hj] at hp
    have D:Zy t A (.error 0)=res:=by unfold Zy;rw [if_pos hi,if_pos hj];simpa using hp
    rw [←D];exact y8 r g o cap _ t A w (.error 0) h hE (fun _ _ h=>by cases h) fun _ hj'=>by rw [hj] at hj';cases hj'
   ·rw [if_neg hj] at hp
    change zo (ZJ f [] A) _=some res at hp
    obtain ⟨z,E⟩:=ZM hp
    have D:Zy t A z=res:=by
     unfold Zy
     rw [if_pos hi,if_neg hj];rw [E] at hp;rcases z with a | ⟨l,I⟩
     ·simpa [zo] using hp
     ·simp only [zo] at hp
      by_cases hk:zp (zM I) [41]=true
      ·simpa [hk] using hp
      ·simpa [hk] using hp
    rw [←D];exact y8 r g o cap _ t A w z h hE (fun l I he=>by subst he;exact (zX f).2.2.2.2.2.1 _ _ _ _ E y) fun _ _ w1 o1 cap1 hR hK=>C.row w1 o1 cap1 A z E y hR (hl.kept hK hrl)
  ·rw [if_neg hi] at hp
   have D:Zy t A (.error 0)=res:=by unfold Zy;rw [if_neg hi];exact Option.some.inj hp
   rw [←D];exact y8 r g o cap _ t A w (.error 0) h hE (fun _ _ h=>by cases h) fun hi'=>absurd hi' hi
 single:=fun w o cap ts res hp hE h hl=>by
  obtain ⟨t,A,rfl⟩:=hE.cons;rw [zw] at hp;simp only [zG,List.tail_cons] at hp
  by_cases h2:t.k=2
  ·rw [if_pos h2] at hp
   simp only [Option.some.injEq] at hp;subst hp;exact X0 r g o cap t A w h h2 (hE.tail (by omega)).ne
  ·rw [if_neg h2] at hp
   by_cases h3:t.k=3
   ·rw [if_pos h3] at hp
    simp only [Option.some.injEq] at hp;subst hp;exact X1 r g o cap t A w h h3 (hE.tail (by omega)).ne
   ·rw [if_neg h3] at hp
    by_cases E:t.k=1
    ·rw [if_pos E] at hp
     have y:=hE.tail (by omega:t.k≠0)
     obtain ⟨u,I,rfl⟩:=y.cons;refine Xj r g o cap t (u::I) w res h E fun w1 hR hK=>?_
     simp only [zG] at hp
     by_cases hi:zp u [40]=true
     ·rw [if_pos hi] at hp
      obtain ⟨z,G⟩:=ZM hp
      have D:Vn t z=res:=by
       rw [G] at hp;rcases z with a | ⟨l,L⟩ <;> simpa [zo,Vn] using hp
      rw [←D];exact vF r g o cap t u I w1 z hR E hi fun w2 o2 cap2 hR2 hK2=>C.brackets w2 o2 cap2 _ z G y hR2 ((hl.kept hK hrl).kept hK2 hrl)
     ·rw [if_neg hi] at hp
      simp only [Option.some.injEq] at hp;subst hp;exact XY r g o cap t u I w1 hR E (by simpa using hi)
    ·rw [if_neg E] at hp
     by_cases hT:zp t [116,114,117,101]=true
     ·rw [if_pos hT] at hp
      simp only [Option.some.injEq] at hp;subst hp;exact Xk r g o cap t A w hT h hE E h2 h3
     ·rw [if_neg hT] at hp
      have H:zp t [116,114,117,101]=false:=by simpa using hT
      by_cases hF:zp t [102,97,108,115,101]=true
      ·rw [if_pos hF] at hp
       simp only [Option.some.injEq] at hp;subst hp;exact xA r g o cap t A w hF h hE E h2 h3 H
      ·rw [if_neg hF] at hp
       have J:zp t [102,97,108,115,101]=false:=by simpa using hF
       by_cases hN:zp t [110,101,119]=true
       ·rw [if_pos hN] at hp
        have y:=hE.tail (zf hN);obtain ⟨u,I,rfl⟩:=y.cons;simp only [Yg,zG,List.tail_cons] at hp
        by_cases hk:u.k=1
        ·rw [if_pos hk] at hp
         change zo (zx f I) _=some res at hp
         obtain ⟨z,G⟩:=ZM hp
         have D:Xl t u z=res:=by
          unfold Xl
          rw [if_pos hk];rw [G] at hp;rcases z with a | ⟨l,L⟩ <;> simpa [zo] using hp
         rw [←D];exact YB r g o cap t u I w z hN (fun _ w2 o2 cap2 hR2 hK2=>C.brackets w2 o2 cap2 _ z G (y.tail (by omega)) hR2 (hl.kept hK2 hrl)) h hE E h2 h3 H J
        ·rw [if_neg hk] at hp
         have D:Xl t u (.error 0)=res:=by unfold Xl;rw [if_neg hk];simpa [zo] using hp
         rw [←D];exact YB r g o cap t u I w (.error 0) hN (fun hk'=>absurd hk' hk) h hE E h2 h3 H J
       ·rw [if_neg hN] at hp
        have K:zp t [110,101,119]=false:=by simpa using hN
        by_cases hA:zp t [91]=true
        ·rw [if_pos hA] at hp
         have y:=hE.tail (zf hA);obtain ⟨z,G⟩:=ZM hp
         have D:y9 t z=res:=by
          unfold y9
          rw [G] at hp;rcases z with a | ⟨l,L⟩
          ·simpa [zo] using hp
          ·simp only [zo,Zj] at hp
           by_cases hk:zp (zM L) [93]=true
           ·simpa [hk] using hp
           ·simpa [hk] using hp
         rw [←D];exact xB r g o cap t A w z hA (fun l L he=>by subst he;exact (zX f).2.2.2.2.2.1 _ _ _ _ G y) (fun w2 o2 cap2 hR2 hK2=>C.row w2 o2 cap2 _ z G y hR2 (hl.kept hK2 hrl)) h hE E h2 h3 H J K
        ·rw [if_neg hA] at hp
         have M:zp t [91]=false:=by simpa using hA
         simp only [Zj,zG,List.tail_cons] at hp
         by_cases hP:zp t [40]=true
         ·rw [if_pos hP] at hp
          change zo (zd f 1 A) _=some res at hp
          have y:=hE.tail (zf hP);obtain ⟨z,G⟩:=ZM hp
          have D:yl t z=res:=by
           unfold yl
           rw [if_pos hP];rw [G] at hp;rcases z with a | ⟨l,L⟩
           ·simpa [zo] using hp
           ·simp only [zo] at hp
            by_cases hk:zp (zM L) [41]=true
            ·simpa [hk] using hp
            ·simpa [hk] using hp
          rw [←D];exact y4 r g o cap t A w z (fun l L he=>by subst he;exact (zX f).1 _ _ _ _ G y) (fun _ w2 o2 cap2 hR2 hK2=>C.expr hrl w2 o2 cap2 _ z G y hR2 (hl.kept hK2 hrl)) h hE E h2 h3 H J K M
         ·rw [if_neg hP] at hp
          have D:yl t (.error 0)=res:=by unfold yl;rw [if_neg hP];simpa [zo] using hp
          rw [←D];exact y4 r g o cap t A w (.error 0) (fun _ _ h=>by cases h) (fun hP'=>absurd hP' hP) h hE E h2 h3 H J K M
theorem UJ (r g:Nat) (hrl:r≠5):∀f,Yp r g f:=by
 intro f
 induction f with
 | zero=>exact ⟨fun _ _ _ _ _ _ h=>by simp [zd] at h,fun _ _ _ _ _ h=>by simp [zW] at h,fun _ _ _ _ _ h=>by simp [zw] at h,fun _ _ _ _ _ h=>by simp [ZJ] at h,fun _ _ _ _ _ h=>by simp [zx] at h⟩
 | succ f C =>
  refine C.next hrl (fun o cap least ts w res h hE hl h6 hp=>?_) (fun o cap ts w res h hE hl hp=>?_)
  ·refine VU r g o cap f least ts w res h hE h.few hl hrl h6 hp fun w1 o1 cap1 ts1 r1 hb hE1 _ hR hK=>?_
   have:=C.between (least+1) w1 o1 cap1 ts1 r1 hb hE1 hR (hl.kept hK hrl)
   simpa using this
  ·exact Ul r g o cap f ts w res h hE hp (fun w1 o1 cap1 ts1 r1 hb hE1 hR hK=>C.single w1 o1 cap1 ts1 r1 hb hE1 hR (hl.kept hK hrl)) fun w1 o1 cap1 ts1 r1 hb hE1 hR hK=>C.expr hrl w1 o1 cap1 ts1 r1 hb hE1 hR (hl.kept hK hrl)
end Go.Proofs.YtmbofhpmockmbaaGreatDoor
