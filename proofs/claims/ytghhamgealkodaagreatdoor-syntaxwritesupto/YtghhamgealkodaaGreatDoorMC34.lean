import Derived.Test.YtghhamgealkodaaGreatDoorMC18
import Derived.Test.YtghhamgealkodaaGreatDoorSProg
import Derived.Test.YtghhamgealkodaaGreatDoorShelf
import Derived.Test.YtghhamgealkodaaGreatDoorMC22
import Derived.Test.YtghhamgealkodaaGreatDoorMC16
import Derived.Test.YtghhamgealkodaaGreatDoorSDepthS
namespace Go.Proofs.YtghhamgealkodaaGreatDoor
open Go.RowKit Go.Shelf
set_option maxRecDepth 100000
theorem repeat_any (c:UInt8) (n:Nat) (w:World) (hn:n≤1099511627776):Calls Tryz.prog 144 #[.string ⟨#[c]⟩,.int .i64 n] w fun e w'=>e=.returned (.string (strB (List.replicate n c)))∧Below w.heap.size w w':=by
 have h:=Tryz.strings_Repeat ⟨#[c]⟩ n w (by omega) (by show 1*n≤_;omega)
 refine h.mono fun e w' h9=>⟨?_,h9.2⟩
 rw [h9.1]
 have e:=Lib.repeatL_replicate c 1 n
 rw [show List.replicate 1 c=[c] from rfl,Nat.mul_one] at e
 show Ending.returned (.string ⟨(Lib.repeatL [c] n).toArray⟩)=_
 rw [e]
theorem typeText_any (r g o cap:Nat) (ts:List Tk) (w:World) (hE:EndsT ts) (h:RdAt r g o cap ts w):Calls Tryz.prog 112 #[.pointer (some ⟨r,0,none⟩)] w (PostT r g w (typeS 0 ts)) :=
 rdType r g o cap ts w h hE hE.names repeat_any
theorem param_any (r g o cap:Nat) (ts:List Tk) (w:World) (hE:EndsT ts) (h:RdAt r g o cap ts w):Calls Tryz.prog 110 #[.pointer (some ⟨r,0,none⟩)] w (PostP r g w (paramR ts)) :=
 rdParam r g o cap ts w h hE fun us w1 o1 cap1 _ hE1 h1=>typeText_any r g o1 cap1 us w1 hE1 h1
theorem params_any (r g o cap F:Nat) (ts:List Tk) (w:World) (res:PR (List Pm)) (hp:pParams F [] ts=some res) (hE:EndsT ts) (h:RdAt r g o cap ts w) :
  Calls Tryz.prog 109 #[.pointer (some ⟨r,0,none⟩),.func (.func 110) #[.pointer (some ⟨r,0,none⟩)] #[]] w (PostR r g w res) :=
 rdParams r g o cap F ts w res h hE (pParams_mono hp) fun w1 o1 cap1 ts1 hE1 h1 _=>param_any r g o1 cap1 ts1 w1 hE1 h1
theorem parB_any (r g o cap F:Nat) (ts:List Tk) (w:World) (R:PR (List Pm)) (hp:pParB F ts=some R) (hE:EndsT ts) (h:RdAt r g o cap ts w) :
  Calls Tryz.prog 111 #[.pointer (some ⟨r,0,none⟩),.func (.func 110) #[.pointer (some ⟨r,0,none⟩)] #[]] w (PostB r g w R):=by
 obtain ⟨t,us,rfl⟩:=hE.cons
 unfold pParB needP at hp
 simp only [hdT_cons,List.tail_cons] at hp
 by_cases h1:isTk t [40]=true
 ·have hE1:=hE.tail (isTk_kind h1)
  simp only [if_pos h1,thenP] at hp
  by_cases h2:isTk (hdT us) [41]=true
  ·simp only [if_pos h2,Option.some.injEq] at hp
   have e:R=bracketsP t us (.error 0):=by unfold bracketsP;rw [if_pos h1,if_pos h2];exact hp.symm
   rw [e]
   exact rdBracketsP r g o cap _ t us w (.error 0) h hE (fun _ _ e=>by cases e) fun _ h9=>absurd h2 (by rw [h9];decide)
  ·simp only [if_neg h2] at hp
   cases h3:pParams F [] us with
   | none=>rw [h3] at hp;cases hp
   | some r3 =>
    rw [h3] at hp
    have e:R=bracketsP t us r3:=by
     unfold bracketsP
     rw [if_pos h1,if_neg h2]
     rcases r3 with a | ⟨l,us3⟩
     ·simp only [Option.some.injEq] at hp
      exact hp.symm
     ·simp only at hp ⊢
      by_cases h4:isTk (hdT us3) [41]=true
      ·simp only [if_pos h4,Option.some.injEq] at hp ⊢
       exact hp.symm
      ·simp only [if_neg h4,Option.some.injEq] at hp ⊢
       exact hp.symm
    rw [e]
    exact rdBracketsP r g o cap _ t us w r3 h hE (fun l us3 e=>by subst e;exact pParams_ends h3 hE1) fun _ _ w1 o1 cap1 hR hK=>params_any r g o1 cap1 F us w1 r3 h3 hE1 hR
 ·simp only [if_neg h1,thenP,Option.some.injEq] at hp
  have e:R=bracketsP t us (.error 0):=by unfold bracketsP;rw [if_neg h1];exact hp.symm
  rw [e]
  exact rdBracketsP r g o cap _ t us w (.error 0) h hE (fun _ _ e=>by cases e) fun h9=>absurd h9 h1
theorem program_any (r g o cap F:Nat) (hrl:r≠1) (ts:List Tk) (w:World) (res:PR Pg) (hp:pProg F [] [] ts=some res) (hE:EndsT ts) (h:RdAt r g o cap ts w) (hl:LevT w) :
  Calls Tryz.prog 26 #[.pointer (some ⟨r,0,none⟩)] w (PostG r g w res) :=
 rdProgram r g o cap F ts w res h hE hp
  (fun w1 o1 cap1 ts1 r1 line hb hE1 hR _=>rdRecord_any r g o1 cap1 line F ts1 w1 r1 hR hE1 hb fun w2 o2 cap2 ts2 r2 hb2 hE2 hR2 _=>params_any r g o2 cap2 F ts2 w2 r2 hb2 hE2 hR2)
  (fun w1 o1 cap1 ts1 r1 line hb hE1 hR hK=>rdFunc r g o1 cap1 line F ts1 w1 r1 hR hE1 hb (fun w2 o2 cap2 ts2 r2 hb2 hE2 hR2 _=>parB_any r g o2 cap2 F ts2 w2 r2 hb2 hE2 hR2) (fun w2 o2 cap2 ts2 hE2 hR2 _=>typeText_any r g o2 cap2 ts2 w2 hE2 hR2) (fun w2 o2 cap2 ts2 r2 hb2 hE2 hR2 hK2=>(readsS r g hrl F).block w2 o2 cap2 ts2 r2 hb2 hE2 hR2 (hl.kept (hK.trans hK2) hrl)))
theorem needP_len {s:List UInt8} {ts us:List Tk} {y:Unit} (h:needP s ts=some (.ok (y,us))):us.length+1=ts.length:=by
 unfold needP at h
 split at h
 ·rename_i hi
  simp only [Option.some.injEq,Except.ok.injEq,Prod.mk.injEq] at h
  rw [←h.2];exact is_ne hi
 ·simp at h
theorem nameP_len {s:List UInt8} {ts us:List Tk} (h:nameP ts=some (.ok (s,us))):us.length+1=ts.length:=by
 unfold nameP at h
 split at h
 ·rename_i hi
  simp only [Option.some.injEq,Except.ok.injEq,Prod.mk.injEq] at h
  rw [←h.2];exact hd_ne (by omega)
 ·simp at h
theorem okP_eq {α:Type} {x y:α} {ts us:List Tk} (h:(some (.ok (x,ts)):Option (PR α))=some (.ok (y,us))):x=y∧ts=us:=by
 simpa using h
theorem parse_depth (f:Nat) :
  (∀least ts x us,pBetween f least ts=some (.ok (x,us))→depthE x+us.length≤ts.length)∧(∀least e ts x us T,pMore f least e ts=some (.ok (x,us))→depthE e+ts.length≤T→depthE x+us.length≤T) ∧
  (∀ts x us,pUnary f ts=some (.ok (x,us))→depthE x+us.length≤ts.length)∧(∀e ts x us T,pBehind f e ts=some (.ok (x,us))→depthE e+ts.length≤T→depthE x+us.length≤T)∧(∀ts x us,pSingle f ts=some (.ok (x,us))→depthE x+us.length≤ts.length) ∧
  (∀pre ts l us T,pRow f pre ts=some (.ok (l,us))→depthL pre+ts.length≤T→depthL l+us.length≤T)∧(∀ts l us,pBrackets f ts=some (.ok (l,us))→depthL l+us.length+1≤ts.length):=by
 induction f with
 | zero=>refine ⟨?_,?_,?_,?_,?_,?_,?_⟩ <;> intros <;> simp_all [pBetween,pMore,pUnary,pBehind,pSingle,pRow,pBrackets]
 | succ f ih =>
  obtain ⟨i1,i2,i3,i4,i5,i6,i7⟩:=ih
  refine ⟨fun least ts x us h=>?_,fun least e ts x us T h hT=>?_,fun ts x us h=>?_,fun e ts x us T h hT=>?_,fun ts x us h=>?_,fun pre ts l us T h hT=>?_,fun ts l us h=>?_⟩
  ·rw [pBetween] at h
   split at h
   ·exact i3 _ _ _ h
   ·obtain ⟨y,vs,h1,h2⟩:=thenP_ok h
    exact i2 _ _ _ _ _ _ h2 (i1 _ _ _ _ h1)
  ·rw [pMore] at h
   split at h
   ·rename_i hc
    obtain ⟨y,vs,h1,h2⟩:=thenP_ok h
    have a:=i1 _ _ _ _ h1
    have b:=hd_ne (ts:=ts) (by omega)
    have d:1≤depthE y:=by cases y;simp [depthE]
    refine i2 _ _ _ _ _ _ h2 ?_
    simp only [depthE,depthL]
    omega
   ·obtain ⟨rfl,rfl⟩:=okP_eq h;exact hT
  ·rw [pUnary] at h
   split at h
   ·rename_i hc
    obtain ⟨y,vs,h1,h2⟩:=thenP_ok h
    have a:=i3 _ _ _ h1
    have b:=hd_ne (ts:=ts) (by omega)
    obtain ⟨rfl,rfl⟩:=okP_eq h2
    simp only [depthE,depthL]
    omega
   ·obtain ⟨y,vs,h1,h2⟩:=thenP_ok h
    exact i4 _ _ _ _ _ h2 (i5 _ _ _ h1)
  ·rw [pBehind] at h
   split at h
   ·rename_i hc
    obtain ⟨y,vs,h1,h2⟩:=thenP_ok h
    obtain ⟨z,vs',h3,h4⟩:=thenP_ok h2
    have a:=i1 _ _ _ _ h1
    have b:=is_ne hc
    have c:=needP_len h3
    have d:1≤depthE y:=by cases y;simp [depthE]
    refine i4 _ _ _ _ _ h4 ?_
    simp only [depthE,depthL]
    omega
   ·split at h
    ·rename_i hc
     obtain ⟨y,vs,h1,h2⟩:=thenP_ok h
     have b:=is_ne hc
     have c:=nameP_len h1
     refine i4 _ _ _ _ _ h2 ?_
     simp only [depthE,depthL]
     omega
    ·obtain ⟨rfl,rfl⟩:=okP_eq h;exact hT
  ·rw [pSingle] at h
   split at h
   ·rename_i hc
    have b:=hd_ne (ts:=ts) (by omega)
    obtain ⟨rfl,rfl⟩:=okP_eq h
    simp only [depthE,depthL];omega
   ·split at h
    ·rename_i hc
     have b:=hd_ne (ts:=ts) (by omega)
     obtain ⟨rfl,rfl⟩:=okP_eq h
     simp only [depthE,depthL];omega
    ·split at h
     ·rename_i hc
      have b:=hd_ne (ts:=ts) (by omega)
      split at h
      ·obtain ⟨y,vs,h1,h2⟩:=thenP_ok h
       have a:=i7 _ _ _ h1
       obtain ⟨rfl,rfl⟩:=okP_eq h2
       simp only [depthE];omega
      ·obtain ⟨rfl,rfl⟩:=okP_eq h
       simp only [depthE,depthL];omega
     ·split at h
      ·rename_i hc
       have b:=is_ne hc
       obtain ⟨rfl,rfl⟩:=okP_eq h
       simp only [depthE,depthL];omega
      ·split at h
       ·rename_i hc
        have b:=is_ne hc
        obtain ⟨rfl,rfl⟩:=okP_eq h
        simp only [depthE,depthL];omega
       ·split at h
        ·rename_i hc
         have b:=is_ne hc
         obtain ⟨s,vs,h1,h2⟩:=thenP_ok h
         obtain ⟨y,vs',h3,h4⟩:=thenP_ok h2
         have a:=i7 _ _ _ h3
         have c:=nameP_len h1
         obtain ⟨rfl,rfl⟩:=okP_eq h4
         simp only [depthE];omega
        ·split at h
         ·rename_i hc
          have b:=is_ne hc
          obtain ⟨y,vs,h1,h2⟩:=thenP_ok h
          obtain ⟨z,vs',h3,h4⟩:=thenP_ok h2
          have a:=i6 _ _ _ _ _ h1 (Nat.le_refl _)
          have c:=needP_len h3
          obtain ⟨rfl,rfl⟩:=okP_eq h4
          simp only [depthE,depthL] at a ⊢;omega
         ·obtain ⟨z,vs,h1,h2⟩:=thenP_ok h
          obtain ⟨y,vs',h3,h4⟩:=thenP_ok h2
          obtain ⟨z',vs'',h5,h6⟩:=thenP_ok h4
          have a:=i1 _ _ _ _ h3
          have b:=needP_len h1
          have c:=needP_len h5
          obtain ⟨rfl,rfl⟩:=okP_eq h6
          omega
  ·rw [pRow] at h
   obtain ⟨y,vs,h1,h2⟩:=thenP_ok h
   have a:=i1 _ _ _ _ h1
   split at h2
   ·rename_i hc
    have b:=is_ne hc
    refine i6 _ _ _ _ _ h2 ?_
    rw [depthL_append];simp only [depthL]
    omega
   ·obtain ⟨rfl,rfl⟩:=okP_eq h2
    rw [depthL_append];simp only [depthL]
    omega
  ·rw [pBrackets] at h
   obtain ⟨z,vs,h1,h2⟩:=thenP_ok h
   have b:=needP_len h1
   split at h2
   ·rename_i hc
    have c:=is_ne hc
    obtain ⟨rfl,rfl⟩:=okP_eq h2
    simp only [depthL];omega
   ·obtain ⟨y,vs',h3,h4⟩:=thenP_ok h2
    obtain ⟨z',vs'',h5,h6⟩:=thenP_ok h4
    have a:=i6 _ _ _ _ _ h3 (Nat.le_refl _)
    have c:=needP_len h5
    obtain ⟨rfl,rfl⟩:=okP_eq h6
    simp only [depthL] at a;omega
theorem textF_kind:∀(f:Nat) (m:List UInt8) (a:Nat) (r:List UInt8),(textF f m a r).k≠1
 | 0,_,_,_=>by simp [textF]
 | _+1,_,_,[]=>by simp [textF]
 | f+1,m,a,x::r=>by
  unfold textF
  split
  ·simp
  ·split
   ·simp
   ·split
    ·simp
    ·exact textF_kind f _ _ _
theorem tokT_name (l:List UInt8) (h:(tokT l).k=1):(tokT l).s.length≤20:=by
 unfold tokT at h ⊢
 cases l with
 | nil=>simp at h
 | cons x r =>
  simp only at h ⊢
  split at h
  ·rename_i hc
   rw [if_pos hc]
   unfold nameR at h ⊢
   split at h
   ·simp at h
   ·rename_i h1
    rw [if_neg h1]
    split at h
    ·simp at h
    ·rename_i h2
     rw [if_neg h2]
     simp only
     omega
  ·rename_i hc
   rw [if_neg hc]
   split at h
   ·unfold numT at h
    split at h <;> simp at h
   ·rename_i hd
    rw [if_neg hd]
    split at h
    ·exact absurd h (textF_kind _ _ _ _)
    ·unfold signT at h
     split at h <;> simp at h
theorem nextT_name (l:List UInt8) (line a:Nat):NmT (tkT l line a):=fun h=>by
 have:=tokT_name _ (show (tokT (l.drop (a+gapN (l.drop a)))).k=1 from h)
 have e:(tkT l line a).s=(tokT (l.drop (a+gapN (l.drop a)))).s:=rfl
 rw [e];omega
theorem scanS_ends (l:List UInt8):∀(f line a:Nat),a≤l.length→l.length<a+f→(scanS l f line a).2.2=0→EndsT (scanS l f line a).1:=by
 intro f
 induction f with
 | zero=>intro line a ha hf;omega
 | succ f ih =>
  intro line a ha hf h
  rw [scanS] at h ⊢
  split at h
  ·rename_i he;exact absurd h he
  ·rename_i he
   rw [if_neg he]
   have he0:(nextT l a).e=0:=by simpa using he
   split at h
   ·rename_i hk
    rw [if_pos hk]
    exact hk
   ·rename_i hk
    rw [if_neg hk]
    split at h
    ·rename_i h2;exact absurd h h2
    ·rename_i h2
     rw [if_neg h2]
     have hm:=nextT_move ha he0 hk
     have hr:=ih (lineT l line a) (placeT l a+(nextT l a).sz) hm.2 (by omega) (by simpa using h2)
     obtain ⟨t,ts,hts⟩:=hr.cons
     simp only [hts] at hr ⊢
     exact ⟨hk,nextT_name l line a,hr⟩
theorem scanB_ends (l:List UInt8) (h:(scanB l).2.2=0):EndsT (scanB l).1:=by
 unfold scanB at h ⊢
 split at h
 ·simp at h
 ·rename_i hl
  rw [if_neg hl]
  exact scanS_ends l _ _ _ (Nat.zero_le _) (by omega) h
theorem stmt_depth (f:Nat) :
  (∀ts x us,pStmt f ts=some (.ok (x,us))→depthS x+us.length≤ts.length)∧(∀ts l us,pBlock f ts=some (.ok (l,us))→depthSs l+us.length+1≤ts.length)∧(∀pre ts l us T,pStmts f pre ts=some (.ok (l,us))→depthSs pre+ts.length≤T→depthSs l+us.length≤T):=by
 induction f with
 | zero=>refine ⟨?_,?_,?_⟩ <;> intros <;> simp_all [pStmt,pBlock,pStmts]
 | succ f ih =>
  obtain ⟨i1,i2,i3⟩:=ih
  have b1:=(parse_depth f).1
  refine ⟨fun ts x us h=>?_,fun ts l us h=>?_,fun pre ts l us T h hT=>?_⟩
  ·rw [pStmt] at h
   split at h
   ·rename_i hc
    obtain ⟨_,_,h1,h⟩:=thenP_ok h
    obtain ⟨_,_,h2,h⟩:=thenP_ok h
    obtain ⟨_,_,h3,h⟩:=thenP_ok h
    obtain ⟨_,_,h4,h⟩:=thenP_ok h
    have l0:=is_ne hc
    have l1:=nameP_len h1
    have l2:=needP_len h2
    have l3:=b1 _ _ _ _ h3
    have l4:=needP_len h4
    obtain ⟨rfl,rfl⟩:=okP_eq h
    simp only [depthS,depthSs,depthL];omega
   ·split at h
    ·rename_i hc
     obtain ⟨_,_,h1,h⟩:=thenP_ok h
     obtain ⟨_,_,h2,h⟩:=thenP_ok h
     have l0:=is_ne hc
     have l1:=b1 _ _ _ _ h1
     have l2:=i2 _ _ _ h2
     split at h
     ·rename_i hc
      obtain ⟨_,_,h3,h⟩:=thenP_ok h
      have l3:=is_ne hc
      have l4:=i2 _ _ _ h3
      obtain ⟨rfl,rfl⟩:=okP_eq h
      simp only [depthS,depthL];omega
     ·obtain ⟨rfl,rfl⟩:=okP_eq h
      simp only [depthS,depthSs,depthL];omega
    ·split at h
     ·rename_i hc
      obtain ⟨_,_,h1,h⟩:=thenP_ok h
      obtain ⟨_,_,h2,h⟩:=thenP_ok h
      have l0:=is_ne hc
      have l1:=b1 _ _ _ _ h1
      have l2:=i2 _ _ _ h2
      obtain ⟨rfl,rfl⟩:=okP_eq h
      simp only [depthS,depthSs,depthL];omega
     ·split at h
      ·rename_i hc
       have l0:=is_ne hc
       split at h
       ·rename_i hc2
        have l1:=is_ne hc2
        obtain ⟨rfl,rfl⟩:=okP_eq h
        simp only [depthS,depthSs,depthL];omega
       ·obtain ⟨_,_,h1,h⟩:=thenP_ok h
        obtain ⟨_,_,h2,h⟩:=thenP_ok h
        have l1:=b1 _ _ _ _ h1
        have l2:=needP_len h2
        obtain ⟨rfl,rfl⟩:=okP_eq h
        simp only [depthS,depthSs,depthL];omega
      ·obtain ⟨_,_,h1,h⟩:=thenP_ok h
       have l1:=b1 _ _ _ _ h1
       split at h
       ·rename_i hc
        have l2:=is_ne hc
        split at h
        ·obtain ⟨_,_,h2,h⟩:=thenP_ok h
         obtain ⟨_,_,h3,h⟩:=thenP_ok h
         have l3:=b1 _ _ _ _ h2
         have l4:=needP_len h3
         obtain ⟨rfl,rfl⟩:=okP_eq h
         simp only [depthS,depthSs,depthL];omega
        ·simp at h
       ·obtain ⟨_,_,h2,h⟩:=thenP_ok h
        have l2:=needP_len h2
        obtain ⟨rfl,rfl⟩:=okP_eq h
        simp only [depthS,depthSs,depthL];omega
  ·rw [pBlock] at h
   obtain ⟨_,us1,h1,h⟩:=thenP_ok h
   have l1:=needP_len h1
   have l2:=i3 _ _ _ _ us1.length h (by simp [depthSs])
   omega
  ·rw [pStmts] at h
   split at h
   ·rename_i hc
    have l0:=is_ne hc
    obtain ⟨rfl,rfl⟩:=okP_eq h
    omega
   ·obtain ⟨y,us1,h1,h⟩:=thenP_ok h
    have l1:=i1 _ _ _ h1
    refine i3 _ _ _ _ T h ?_
    rw [depthSs_append]
    simp only [depthSs];omega
theorem pParams_len {f:Nat} {ts us:List Tk} {l:List Pm} (h:pParams f [] ts=some (.ok (l,us))) (hE:EndsT ts):us.length<ts.length:=by
 have hpos:=hE.pos
 obtain ⟨f',r',h1,h2⟩:=params_total ts.length ts (Nat.le_refl _) hE []
 have a:∀k,pParams (f+k) [] ts=some (.ok (l,us)):=by
  intro k
  induction k with
  | zero=>exact h
  | succ k ih=>exact pParams_mono ih
 have b:=h1 f
 have a:=a f'
 rw [Nat.add_comm] at a
 have e:=Option.some.inj (a.symm.trans b)
 have:=(h2 l us e.symm).1
 omega
theorem pParB_len {f:Nat} {ts us:List Tk} {l:List Pm} (h:pParB f ts=some (.ok (l,us))) (hE:EndsT ts):us.length≤ts.length:=by
 unfold pParB at h
 obtain ⟨_,us1,h1,h⟩:=thenP_ok h
 have l1:=needP_len h1
 have hE1:=needP_ends h1 hE
 split at h
 ·rename_i hc
  have l2:=is_ne hc
  obtain ⟨rfl,rfl⟩:=okP_eq h
  omega
 ·obtain ⟨_,us2,h2,h⟩:=thenP_ok h
  obtain ⟨_,us3,h3,h⟩:=thenP_ok h
  have l2:=pParams_len h2 hE1
  have l3:=needP_len h3
  obtain ⟨rfl,rfl⟩:=okP_eq h
  omega
theorem resP_len {ts us:List Tk} {s:List UInt8} (h:resP ts=some (.ok (s,us))) (hE:EndsT ts):us.length≤ts.length:=by
 unfold resP at h
 split at h
 ·rename_i hc
  have l1:=is_ne hc
  have:=(typeS_ends _ _ _ _ (Option.some.inj h) (ends_is hE hc)).2
  omega
 ·obtain ⟨rfl,rfl⟩:=okP_eq h
  omega
theorem func_depth {f line:Nat} {ts us:List Tk} {x:Fc} (h:pFunc f line ts=some (.ok (x,us))) (hE:EndsT ts):depthSs x.body+us.length≤ts.length:=by
 unfold pFunc at h
 obtain ⟨_,us1,h1,h⟩:=thenP_ok h
 obtain ⟨_,us2,h2,h⟩:=thenP_ok h
 obtain ⟨_,us3,h3,h⟩:=thenP_ok h
 obtain ⟨b,us4,h4,h⟩:=thenP_ok h
 have hE1:=nameP_ends h1 hE
 have hE2:=pParB_ends h2 hE1
 have l1:=nameP_len h1
 have l2:=pParB_len h2 hE1
 have l3:=resP_len h3 hE2
 have l4:=(stmt_depth f).2.1 _ _ _ h4
 obtain ⟨rfl,rfl⟩:=okP_eq h
 simp only
 omega
theorem prog_depth (T:Nat):∀(f:Nat) (rs:List Rc) (fs:List Fc) (ts us:List Tk) (p:Pg),pProg f rs fs ts=some (.ok (p,us))→EndsT ts→depthFs fs+ts.length≤T→depthFs p.funs+us.length≤T
 | 0,_,_,_,_,_,h,_,_=>by simp [pProg] at h
 | f+1,rs,fs,ts,us,p,h,hE,hT=>by
  rw [pProg] at h
  split at h
  ·obtain ⟨rfl,rfl⟩:=okP_eq h
   exact hT
  ·split at h
   ·rename_i hc
    have l0:=is_ne hc
    have hE0:=ends_is hE hc
    obtain ⟨x,us1,h1,h⟩:=thenP_ok h
    have l1:=pRecord_len h1 hE0
    exact prog_depth T f _ _ _ _ _ h (pRecord_ends h1 hE0) (by omega)
   ·split at h
    ·rename_i hc
     have l0:=is_ne hc
     have hE0:=ends_is hE hc
     obtain ⟨x,us1,h1,h⟩:=thenP_ok h
     have l1:=func_depth h1 hE0
     refine prog_depth T f _ _ _ _ _ h (pFunc_ends h1 hE0) ?_
     rw [depthFs_append]
     simp only [depthFs]
     omega
    ·simp at h
abbrev PgAt (B:Nat) (w:World) (p:Pg) (v:Value):Prop:=PgIn (fun k=>B≤k) w p v
theorem PgAt.kept {B:Nat} {w w':World} {p:Pg} {v:Value} (h:PgAt B w p v) (hs:w.heap.size≤w'.heap.size) (hb:∀k,B≤k→k<w.heap.size→w'.heap[k]?=w.heap[k]?):PgAt B w' p v:=PgIn.kept h hs hb
theorem PgAt.mono {B B':Nat} {w:World} {p:Pg} {v:Value} (h:PgAt B w p v) (hb:B'≤B):PgAt B' w p v:=PgIn.wide h fun k hk=>by omega
abbrev noPg:Pg:=⟨[],[]⟩
theorem pgNil (B:Nat) (w:World):PgAt B w noPg (.agg #[.slice none 0 0,.slice none 0 0]):=(PrgIn.nil B w).pg
abbrev set2 (w:World) (N:Nat) (a b:Value):World:=(w.setCell ⟨N,0,none⟩ a).setCell ⟨N,1,none⟩ b
theorem set2_cells {w:World} {N:Nat} {x0 x1:Value} {ty:TypeId} (h:w.heap[N]?=some (.cells #[x0,x1] ty (0,0))) (a b:Value) :
  (set2 w N a b).cell? ⟨N,0,none⟩=some a∧(set2 w N a b).cell? ⟨N,1,none⟩=some b:=by
 obtain ⟨q0,q1,-⟩:=cells2 h
 exact ⟨(World.cell?_setCell_other _ _ _ _ (by simp)).trans (World.cell?_setCell_same _ _ _ q0),World.cell?_setCell_same _ _ _ ((World.cell?_setCell_other _ _ _ _ (by simp)).trans q1)⟩
theorem set2_keep (w:World) (N:Nat) (a b:Value) {k:Nat} (hk:k≠N):(set2 w N a b).heap[k]?=w.heap[k]?:=by
 rw [Below.heap_setCell _ _ _ _ (by simpa using hk),Below.heap_setCell _ _ _ _ (by simpa using hk)]
theorem set2_block {w:World} {N:Nat} {x0 x1:Value} {ty:TypeId} (h:w.heap[N]?=some (.cells #[x0,x1] ty (0,0))) (a b:Value):(set2 w N a b).heap[N]?=some (.cells #[a,b] ty (0,0)) :=
 setCell_block b (setCell_block a h)
theorem pProg_ends:∀(f:Nat) (rs:List Rc) (fs:List Fc) (ts us:List Tk) (p:Pg),pProg f rs fs ts=some (.ok (p,us))→EndsT ts→EndsT us
 | 0,_,_,_,_,_,h,_=>by simp [pProg] at h
 | f+1,rs,fs,ts,us,p,h,hE=>by
  rw [pProg] at h
  split at h
  ·obtain ⟨rfl,rfl⟩:=okP_eq h
   exact hE
  ·split at h
   ·rename_i hc
    obtain ⟨x,us1,h1,h⟩:=thenP_ok h
    exact pProg_ends f _ _ _ _ _ h (pRecord_ends h1 (ends_is hE hc))
   ·split at h
    ·rename_i hc
     obtain ⟨x,us1,h1,h⟩:=thenP_ok h
     exact pProg_ends f _ _ _ _ _ h (pFunc_ends h1 (ends_is hE hc))
    ·simp at h
def wholeG (res:PR Pg):Except Nat Pg :=
 match res with
 | .error a=>.error a
 | .ok (x,us)=>if (hdT us).k=0 then .ok x else .error (hdT us).at0
def PostWG (r B2:Nat) (w:World) (res:Except Nat Pg) (e:Ending) (w':World):Prop :=
 Kept2 r B2 w w'∧match res with
  | .error a=>e=gaveUp a
  | .ok x=>e=.returned (.tuple #[])∧∃(s0:Option Addr) (s1 s2:Nat) (d0:Option Addr) (d1 d2:Nat),w'.heap[B2]?=some (.cells #[.slice s0 s1 s2,.slice d0 d1 d2] 25 (0,0))∧PgAt w.heap.size w' x (.agg #[.slice s0 s1 s2,.slice d0 d1 d2])
set_option maxHeartbeats 4000000 in
theorem readDoP (r g o cap B0 B1 B2 f ty0 ty1:Nat) (ts:List Tk) (w:World) (res:PR Pg) (h:RdAt r g o cap ts w) (hE:EndsT ts) (hl:LevT w) (hrl:r≠1) (hp:pProg f [] [] ts=some res)
  (b0:w.heap[B0]?=some (.cells #[.func (.func 26) #[] #[]] ty0 (0,0))) (b1:w.heap[B1]?=some (.cells #[.pointer (some ⟨r,0,none⟩)] ty1 (0,0))) (b2:w.heap[B2]?=some pgZ) (h1:B1≠r) (h2:B2≠r) (h3:B2≠g) (h4:B1≠B2) :
  Calls Tryz.prog 58 #[.pointer (some ⟨B0,0,none⟩),.pointer (some ⟨B1,0,none⟩),.pointer (some ⟨B2,0,none⟩)] w (PostWG r B2 w (wholeG res)):=by
 generalize hres:wholeG res=R
 obtain ⟨t0,ts0,rfl⟩:=hE.cons
 have ce:=program_any r g o cap f hrl _ w res hp hE h hl
 have c0:w.cell? ⟨B0,0,none⟩=some (.func (.func 26) #[] #[]):=by simp only [World.cell?,b0];rfl
 have c1:w.cell? ⟨B1,0,none⟩=some (.pointer (some ⟨r,0,none⟩)):=by simp only [World.cell?,b1];rfl
 have hB2:B2<w.heap.size:=(Array.getElem?_eq_some_iff.1 b2).1
 have hB1:B1<w.heap.size:=(Array.getElem?_eq_some_iff.1 b1).1
 go_enter Tryz.func58,Tryz.ntmps58
 go_wp2_with fail
 refine ce.mono ?_
 clear ce
 rintro e w1 ⟨hk1,hpost⟩
 rcases res with a | ⟨x,us⟩
 ·obtain rfl:=hpost
  obtain rfl:R=.error a:=by rw [←hres];rfl
  exact ⟨rfl,⟨hk1.os,hk1.tape,hk1.output,hk1.size,fun k hk hr _=>hk1.block k hk hr⟩,rfl⟩
 ·obtain ⟨v,o1,cap1,rfl,hx,hrd⟩:=hpost
  obtain ⟨s0,s1,s2,d0,d1,d2,rfl⟩:=hx.agg
  have hE1:=pProg_ends f _ _ _ _ _ hp hE
  obtain ⟨t1,ts1,rfl⟩:=hE1.cons
  have p1:=(hk1.block _ hB1 h1).trans b1
  have p2:=(hk1.block _ hB2 h2).trans b2
  obtain ⟨q0,q1,qf⟩:=cells2 p2
  obtain ⟨w2,hw2⟩:∃w2,w2=set2 w1 B2 (.slice s0 s1 s2) (.slice d0 d1 d2):=⟨_,rfl⟩
  have hkeep:∀k,k≠B2→w2.heap[k]?=w1.heap[k]?:=fun k hk=>by rw [hw2];exact set2_keep _ _ _ _ hk
  have hrd2:RdAt r g o1 cap1 (t1::ts1) w2:=hrd.keep (hkeep r (fun e=>h2 e.symm)) (hkeep g (fun e=>h3 e.symm))
  have hs2:w1.heap.size≤w2.heap.size:=by rw [hw2];simp
  have hx2:PgAt w.heap.size w2 x (.agg #[.slice s0 s1 s2,.slice d0 d1 d2]):=PgAt.kept hx hs2 fun k hB _=>hkeep k (by omega)
  have pB:w2.heap[B2]?=some (.cells #[.slice s0 s1 s2,.slice d0 d1 d2] 25 (0,0)):=by rw [hw2];exact set2_block p2 _ _
  have d1':w2.cell? ⟨B1,0,none⟩=some (.pointer (some ⟨r,0,none⟩)):=by
   have p3:=(hkeep B1 h4).trans p1
   simp only [World.cell?,p3];rfl
  have HK2:Hid (Kept2 r B2 w w2):=⟨by rw [hw2];exact hk1.os,by rw [hw2];exact hk1.tape,by rw [hw2];exact hk1.output,Nat.le_trans hk1.size hs2,fun k hk hr hb=>(hkeep k hb).trans (hk1.block k hk hr)⟩
  have ce:=rdEnd r g o1 cap1 t1 ts1 w2 hrd2
  have HX2:Hid (PgAt w.heap.size w2 x (.agg #[.slice s0 s1 s2,.slice d0 d1 d2])):=hx2
  have HPB:Hid (w2.heap[B2]?=some (.cells #[.slice s0 s1 s2,.slice d0 d1 d2] 25 (0,0))):=pB
  have hw2':=hw2.symm
  have hsz:=hk1.size
  have hB2':B2<w2.heap.size:=(Array.getElem?_eq_some_iff.1 pB).1
  clear hx2 pB hrd2 hkeep hx hrd p1 p2 hk1 hw2
  by_cases hk:t1.k=0
  ·simp only [if_pos hk] at ce
   obtain rfl:R=.ok x:=by rw [←hres];unfold wholeG;simp only [hdT_cons,if_pos hk]
   go_wp2_with fail
   refine ce.mono ?_
   clear ce
   rintro e w3 ⟨hk3,rfl⟩
   have hP:PostWG r B2 w (.ok x) (.returned (.tuple #[])) w3:=by
    refine ⟨⟨hk3.os.trans HK2.out.os,hk3.tape.trans HK2.out.tape,hk3.output.trans HK2.out.output,Nat.le_trans HK2.out.size hk3.size,fun k hk hr hb=>(hk3.block k (Nat.lt_of_lt_of_le hk HK2.out.size) hr).trans (HK2.out.block k hk hr hb)⟩,rfl,s0,s1,s2,d0,d1,d2,(hk3.block _ hB2' h2).trans HPB.out,?_⟩
    exact PgAt.kept HX2.out hk3.size fun k hB hlt=>hk3.block k hlt (by have:=h.lt.1;omega)
   have HP:Hid (PostWG r B2 w (.ok x) (.returned (.tuple #[])) w3):=hP
   clear hP hk3 HK2 HX2 HPB
   go_wp2
   exact bodyPost_ret (v:=.tuple #[]) (by simp [results,Tryz.results58,go_sem]) rfl HP.out
  ·simp only [if_neg hk] at ce
   obtain rfl:R=.error t1.at0:=by rw [←hres];unfold wholeG;simp only [hdT_cons,if_neg hk]
   go_wp2_with fail
   refine ce.mono ?_
   clear ce
   rintro e w3 ⟨hk3,rfl⟩
   exact ⟨rfl,⟨hk3.os.trans HK2.out.os,hk3.tape.trans HK2.out.tape,hk3.output.trans HK2.out.output,Nat.le_trans HK2.out.size hk3.size,fun k hk hr hb=>(hk3.block k (Nat.lt_of_lt_of_le hk HK2.out.size) hr).trans (HK2.out.block k hk hr hb)⟩,rfl⟩
end Go.Proofs.YtghhamgealkodaaGreatDoor
