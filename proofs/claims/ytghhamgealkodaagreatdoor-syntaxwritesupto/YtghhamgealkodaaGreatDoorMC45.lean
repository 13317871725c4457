import Derived.Test.YtghhamgealkodaaGreatDoorMC43
import Derived.Test.YtghhamgealkodaaGreatDoorMC44
import Derived.Test.YtghhamgealkodaaGreatDoorMC14
namespace Go.Proofs.YtghhamgealkodaaGreatDoor
open Go.RowKit Go.Shelf
theorem dec_all (u:Nat):∀c∈Lib.decDigits u,digitN c.toNat=true:=by
 induction u using Nat.strongRecOn with
 | _ u ih =>
  have key:∀d:Nat,d<10→digitN (UInt8.ofNat (48+d)).toNat=true:=by decide
  intro c hc
  rw [Lib.decDigits] at hc
  by_cases h:u<10
  ·rw [dif_pos h,List.mem_singleton] at hc
   rw [hc];exact key u h
  ·rw [dif_neg h,List.mem_append,List.mem_singleton] at hc
   rcases hc with hc | hc
   ·exact ih (u / 10) (by omega) c hc
   ·rw [hc];exact key (u % 10) (by omega)
theorem dec_ne (u:Nat):Lib.decDigits u≠[]:=by
 intro h
 have:=congrArg List.length h
 rw [Lib.decDigits_length,List.length_nil] at this
 have:=Lib.nDigits_pos u
 omega
theorem dec_val (u:Nat):valA 0 (Lib.decDigits u)=u:=by
 induction u using Nat.strongRecOn with
 | _ u ih =>
  have key:∀d:Nat,d<10→(UInt8.ofNat (48+d)).toNat-48=d:=by decide
  rw [Lib.decDigits]
  by_cases h:u<10
  ·rw [dif_pos h]
   show 0*10+((UInt8.ofNat (48+u)).toNat-48)=u
   rw [key u h];omega
  ·rw [dif_neg h,valA_snoc,ih (u / 10) (by omega),key (u % 10) (by omega)]
   omega
theorem digL_dec (u:Nat) (t:List UInt8) (ht:∀x∈t.head?,digitN x.toNat=false):digL (Lib.decDigits u++t)=Lib.decDigits u:=by
 unfold digL
 rw [takeWhile_out t _ (by rw [takeWhile_every _ (dec_all u)])]
 cases t with
 | nil=>simp
 | cons x t=>rw [List.takeWhile_cons_of_neg (by rw [ht x rfl];simp),List.append_nil]
theorem tokT_dec (u:Nat) (hu:u<9223372036854775808) (t:List UInt8) (ht:∀x∈t.head?,digitN x.toNat=false):tokT (Lib.decDigits u++t)=⟨2,[],u,(Lib.decDigits u).length,0⟩:=by
 obtain ⟨x,r,hxr⟩:∃x r,Lib.decDigits u=x::r:=by
  cases h:Lib.decDigits u with
  | nil=>exact absurd h (dec_ne u)
  | cons x r=>exact ⟨x,r,rfl⟩
 have hx:digitN x.toNat=true:=dec_all u x (by rw [hxr];exact List.mem_cons_self ..)
 have hl:letterN x.toNat=false:=by
  unfold digitN at hx
  rw [Bool.and_eq_true,decide_eq_true_eq,decide_eq_true_eq] at hx
  unfold letterN
  rw [Bool.or_eq_false_iff,Bool.or_eq_false_iff]
  refine ⟨⟨by rw [beq_eq_false_iff_ne];omega,?_⟩,?_⟩ <;> (rw [Bool.and_eq_false_iff,decide_eq_false_iff_not,decide_eq_false_iff_not];omega)
 have hd:=digL_dec u t ht
 have h1:tokT (Lib.decDigits u++t)=numT (Lib.decDigits u++t):=by
  rw [hxr,List.cons_append]
  unfold tokT
  simp only
  rw [if_neg (by rw [hl];simp),if_pos hx]
 rw [h1]
 unfold numT
 rw [hd,dec_val,if_pos hu]
theorem textF_k':∀(f:Nat) (meant:List UInt8) (at0:Nat) (r:List UInt8),(textF f meant at0 r).e=0→(textF f meant at0 r).k=3
 | 0,_,_,_,h=>by simp [textF] at h
 | _+1,_,_,[],h=>by simp [textF] at h
 | f+1,meant,at0,x::r,h=>by
  unfold textF at h ⊢
  by_cases h1:x.toNat=34
  ·rw [if_pos h1]
  ·rw [if_neg h1] at h ⊢
   by_cases h2:(tbR (x::r)).2=0
   ·rw [if_pos h2] at h;simp at h
   ·rw [if_neg h2] at h ⊢
    by_cases h3:meant.length=255
    ·rw [if_pos h3] at h;simp at h
    ·rw [if_neg h3] at h ⊢
     exact textF_k' f _ _ _ h
def nameQ (s:List UInt8):Bool:=match s with | []=>false | x::r=>letterN x.toNat&&r.all (fun c=>nameN c.toNat)&&!isWord s&&decide (s.length≤20)
theorem nameL_all {s:List UInt8} (h:s.all (fun c=>nameN c.toNat)=true):nameL s=s:=takeWhile_every s (fun x hx=>List.all_eq_true.1 h x hx)
theorem all_of_nameL {s:List UInt8} (h:nameL s=s):s.all (fun c=>nameN c.toNat)=true:=by
 rw [List.all_eq_true]
 intro x hx
 exact mem_row (p:=fun c=>nameN c.toNat) s x (by rw [←h] at hx;exact hx)
theorem letter_word:∀x∈wordsL,∃c r,x=c::r∧letterN c.toNat=true∧x.all (fun c=>nameN c.toNat)=true:=by
 intro x hx
 have h1:∀x∈wordsL,x≠[]:=by decide
 have h2:∀x∈wordsL,x.all (fun c=>nameN c.toNat)=true:=by decide
 have h3:∀x∈wordsL,letterN (x.headD 0).toNat=true:=by decide
 cases x with
 | nil=>exact absurd rfl (h1 _ hx)
 | cons c r=>exact ⟨c,r,rfl,h3 _ hx,h2 _ hx⟩
theorem sign_head:∀x∈signsL,∃c r,x=c::r∧letterN c.toNat=false∧digitN c.toNat=false∧c.toNat≠34∧blankN c.toNat=false:=by
 intro x hx
 have h1:∀x∈signsL,x≠[]:=by decide
 have h3:∀x∈signsL,letterN (x.headD 0).toNat=false∧digitN (x.headD 0).toNat=false∧(x.headD 0).toNat≠34∧blankN (x.headD 0).toNat=false:=by decide
 cases x with
 | nil=>exact absurd rfl (h1 _ hx)
 | cons c r=>exact ⟨c,r,rfl,h3 _ hx⟩
theorem tokT_letter {x:UInt8} {r:List UInt8} (h:letterN x.toNat=true):tokT (x::r)=nameR (x::r):=by
 unfold tokT;simp only;rw [if_pos h]
theorem tokT_digit {x:UInt8} {r:List UInt8} (h:letterN x.toNat=false) (h2:digitN x.toNat=true):tokT (x::r)=numT (x::r):=by
 unfold tokT;simp only;rw [if_neg (by rw [h];simp),if_pos h2]
theorem tokT_text {x:UInt8} {r:List UInt8} (h:letterN x.toNat=false) (h2:digitN x.toNat=false) (h3:x.toNat=34):tokT (x::r)=textT (x::r):=by
 unfold tokT;simp only;rw [if_neg (by rw [h];simp),if_neg (by rw [h2];simp),if_pos h3]
theorem tokT_sign {x:UInt8} {r:List UInt8} (h:letterN x.toNat=false) (h2:digitN x.toNat=false) (h3:x.toNat≠34):tokT (x::r)=signT (x::r):=by
 unfold tokT;simp only;rw [if_neg (by rw [h];simp),if_neg (by rw [h2];simp),if_neg h3]
theorem best_sign:∀x∈signsL,bestS x 25=x:=by decide +kernel
theorem tokT_minus (t:List UInt8):(tokT (45::t)).e=0→(tokT (45::t)).k=4:=by
 have h1:tokT (45::t)=signT (45::t):=tokT_sign (by decide) (by decide) (by decide)
 rw [h1]
 unfold signT
 split
 ·intro h;simp at h
 ·intro _;rfl
theorem signT_in {x:List UInt8} (hx:x∈signsL):tokT x=⟨4,x,0,x.length,0⟩:=by
 obtain ⟨c,r,rfl,h1,h2,h3,-⟩:=sign_head x hx
 rw [tokT_sign h1 h2 h3]
 unfold signT
 rw [best_sign _ hx,if_neg (by simp)]
theorem wordR {x:List UInt8} (hx:isWord x=true):tokT x=⟨5,x,0,x.length,0⟩:=by
 obtain ⟨c,r,rfl,h1,h2⟩:=letter_word x (by unfold isWord at hx;exact List.contains_iff_mem.1 hx)
 rw [tokT_letter h1]
 unfold nameR
 rw [nameL_all h2,if_pos hx]
theorem nameQ_R {x:List UInt8} (hx:nameQ x=true):tokT x=⟨1,x,0,x.length,0⟩:=by
 cases x with
 | nil=>simp [nameQ] at hx
 | cons c r =>
  unfold nameQ at hx
  simp only at hx
  rw [Bool.and_eq_true,Bool.and_eq_true,Bool.and_eq_true,decide_eq_true_eq] at hx
  obtain ⟨⟨⟨h1,h2⟩,h3⟩,h4⟩:=hx
  have h5:(c::r).all (fun c=>nameN c.toNat)=true:=by rw [List.all_cons,h2,Bool.and_true];simp [nameN,h1]
  rw [tokT_letter h1]
  unfold nameR
  rw [nameL_all h5,if_neg (by intro e;rw [e] at h3;cases h3),if_neg (by omega)]
def refT (k n:Int) (s:List UInt8):List UInt8 × Nat :=
 if k=0∧s=[]∧n=0 then ([],0)
 else if (k=1∧nameQ s=true∧n=0)∨(k=4∧s∈signsL∧n=0)∨(k=5∧isWord s=true∧n=0) then (s,0)
 else if k=2∧s=[]∧0≤n then (Lib.decDigits n.toNat,0)
 else if k=3∧plainQ s=true∧n=0 then (quoteB s,0)
 else ([],2)
theorem back_plain {k n:Int} {s:List UInt8} (h2:k≠2) (h3:k≠3):backB k n s↔(k=0∧s=[]∧n=0)∨(k=1∧nameQ s=true∧n=0)∨(k=4∧s∈signsL∧n=0)∨(k=5∧isWord s=true∧n=0):=by
 have hw:wrB k n s=s:=by unfold wrB;rw [if_neg h2,if_neg h3]
 unfold backB
 rw [hw]
 constructor
 ·rintro ⟨he,hk,hs,hn⟩
  cases s with
  | nil=>exact .inl ⟨hk.symm,rfl,hn.symm⟩
  | cons x r =>
   right
   cases h1:letterN x.toNat with
   | true =>
    rw [tokT_letter h1] at he hk hs hn
    unfold nameR at he hk hs hn
    by_cases hq:isWord (nameL (x::r))=true
    ·rw [if_pos hq] at he hk hs hn
     simp only at he hk hs hn
     rw [hs] at hq
     exact .inr (.inr ⟨hk.symm,hq,hn.symm⟩)
    ·rw [if_neg hq] at he hk hs hn
     by_cases h20:20<(nameL (x::r)).length
     ·rw [if_pos h20] at he;simp at he
     ·rw [if_neg h20] at he hk hs hn
      simp only at he hk hs hn
      have hall:=all_of_nameL hs
      rw [hs] at hq h20
      refine .inl ⟨hk.symm,?_,hn.symm⟩
      unfold nameQ
      simp only
      rw [List.all_cons,Bool.and_eq_true] at hall
      rw [h1,hall.2,decide_eq_true (by omega)]
      simp [hq]
   | false =>
    cases h4:digitN x.toNat with
    | true =>
     rw [tokT_digit h1 h4] at he hk hs hn
     unfold numT at he hk hs hn
     split at hs
     ·simp at hs
     ·simp at hs
    | false =>
     by_cases h34:x.toNat=34
     ·rw [tokT_text h1 h4 h34] at he hk
      have:=(textF_k' _ _ _ _ he)
      unfold textT at hk
      rw [this] at hk
      exact absurd hk.symm h3
     ·rw [tokT_sign h1 h4 h34] at he hk hs hn
      unfold signT at he hk hs hn
      by_cases hb:bestS (x::r) 25=[]
      ·rw [if_pos hb] at he;simp at he
      ·rw [if_neg hb] at hk hs hn
       simp only at hk hs hn
       rcases (best_all (x::r)).2 with h9 | ⟨h9,-⟩
       ·exact absurd h9 hb
       ·rw [hs] at h9
        exact .inr (.inl ⟨hk.symm,h9,hn.symm⟩)
 ·rintro (⟨rfl,rfl,rfl⟩ | ⟨rfl,h,rfl⟩ | ⟨rfl,h,rfl⟩ | ⟨rfl,h,rfl⟩)
  ·exact ⟨rfl,rfl,rfl,rfl⟩
  ·rw [nameQ_R h];exact ⟨rfl,rfl,rfl,rfl⟩
  ·rw [signT_in h];exact ⟨rfl,rfl,rfl,rfl⟩
  ·rw [wordR h];exact ⟨rfl,rfl,rfl,rfl⟩
theorem back_num {n:Int} {s:List UInt8} (hn1:n≤9223372036854775807):backB 2 n s↔s=[]∧0≤n:=by
 unfold backB
 have hw:wrB 2 n s=Lib.itoa n:=rfl
 rw [hw]
 unfold Lib.itoa
 by_cases h:n<0
 ·rw [if_pos h]
  constructor
  ·rintro ⟨he,hk,-,-⟩
   have:=tokT_minus _ he
   rw [this] at hk
   cases hk
  ·rintro ⟨-,h9⟩;omega
 ·rw [if_neg h]
  have ht:=tokT_dec n.toNat (by omega) [] (fun x hx=>by simp at hx)
  rw [List.append_nil] at ht
  rw [ht]
  constructor
  ·rintro ⟨-,-,hs,-⟩;exact ⟨hs.symm,by omega⟩
  ·rintro ⟨rfl,h9⟩
   refine ⟨rfl,rfl,rfl,?_⟩
   show ((n.toNat:Nat):Int)=n
   omega
theorem back_text {n:Int} {s:List UInt8}:backB 3 n s↔plainQ s=true∧n=0:=by
 unfold backB
 have hw:wrB 3 n s=quoteB s:=rfl
 rw [hw]
 cases hp:plainQ s with
 | false =>
  constructor
  ·rintro ⟨he,-⟩;exact absurd he (tokT_quote_bad s hp)
  ·rintro ⟨h,-⟩;cases h
 | true =>
  have ht:=tokT_quote s [] hp
  rw [List.append_nil] at ht
  rw [ht]
  constructor
  ·rintro ⟨-,-,-,hn⟩;exact ⟨rfl,hn.symm⟩
  ·rintro ⟨-,rfl⟩;exact ⟨rfl,rfl,rfl,rfl⟩
theorem tkB_refT (k n:Int) (s:List UInt8) (hn1:n≤9223372036854775807):tkB k n s=refT k n s:=by
 unfold tkB refT
 by_cases h2:k=2
 ·subst h2
  rw [if_neg (c:=(2:Int)=0∧_) (by omega),if_neg (c:=((2:Int)=1∧_)∨_) (by omega)]
  by_cases hb:backB 2 n s
  ·obtain ⟨h3,h4⟩:=(back_num hn1).1 hb
   rw [if_pos hb,if_pos ⟨rfl,h3,h4⟩]
   have:wrB 2 n s=Lib.itoa n:=rfl
   rw [this]
   unfold Lib.itoa
   rw [if_neg (by omega)]
  ·rw [if_neg hb,if_neg (fun h=>hb ((back_num hn1).2 h.2)),if_neg (by omega)]
 ·by_cases h3:k=3
  ·subst h3
   rw [if_neg (c:=(3:Int)=0∧_) (by omega),if_neg (c:=((3:Int)=1∧_)∨_) (by omega),if_neg (c:=(3:Int)=2∧_) (by omega)]
   by_cases hb:backB 3 n s
   ·rw [if_pos hb,if_pos ⟨rfl,back_text.1 hb⟩];rfl
   ·rw [if_neg hb,if_neg (fun h=>hb (back_text.2 h.2))]
  ·have hw:wrB k n s=s:=by unfold wrB;rw [if_neg h2,if_neg h3]
   rw [hw,if_neg (c:=k=2∧_) (fun h=>h2 h.1),if_neg (c:=k=3∧_) (fun h=>h3 h.1)]
   by_cases h0:k=0∧s=[]∧n=0
   ·rw [if_pos h0,if_pos ((back_plain h2 h3).2 (.inl h0)),h0.2.1]
   ·rw [if_neg h0]
    by_cases h1:(k=1∧nameQ s=true∧n=0)∨(k=4∧s∈signsL∧n=0)∨(k=5∧isWord s=true∧n=0)
    ·rw [if_pos h1,if_pos ((back_plain h2 h3).2 (.inr h1))]
    ·rw [if_neg h1,if_neg (fun hb=>by rcases (back_plain h2 h3).1 hb with h | h;exact h0 h;exact h1 h)]
def rgK (k:Int) (s:List UInt8) (n:Int) (m:Nat):Bool :=
 if k=1 then decide (0≤n)&&s==[]&&m==0
 else if k=2 then (n==0||n==1)&&s==[]&&m==0
 else if k=3 then plainQ s&&n==0&&m==0
 else if k=4 then nameQ s&&n==0&&m==0
 else if k=5 then nameQ s&&n==0
 else if k=11 then nameQ s&&n==0
 else if k=6 then (s==[45]||s==[33])&&n==0&&m==1
 else if k=7 then decide (0<levelOf s)&&n==0&&m==2
 else if k=8 then s==[]&&n==0&&m==2
 else if k=9 then nameQ s&&n==0&&m==1
 else if k=10 then s==[]&&n==0&&decide (0<m)
 else false
mutual
def rgE:Ez→Bool
 | .mk k s n kids _=>rgL kids&&rgK k s n kids.length
def rgL:List Ez→Bool
 | []=>true
 | x::xs=>rgE x&&rgL xs
end
mutual
def dpE:Ez→Nat
 | .mk _ _ _ kids _=>dpL kids+1
def dpL:List Ez→Nat
 | []=>0
 | x::xs=>max (dpE x) (dpL xs)
end
def joinT:List (List UInt8)→List UInt8
 | []=>[]
 | [t]=>t
 | t::u::r=>t++[44,32]++joinT (u::r)
def withinT (x:Ez) (least:Nat) (t:List UInt8):List UInt8:=if lvE x<least then [40]++t++[41] else t
def txK (k:Int) (s:List UInt8) (n:Int) (kids:List Ez) (ts:List (List UInt8)):List UInt8 :=
 if k=1 then Lib.decDigits n.toNat
 else if k=2 then (if n=1 then [116,114,117,101] else [102,97,108,115,101])
 else if k=3 then quoteB s
 else if k=4 then s
 else if k=5 then s++[40]++joinT ts++[41]
 else if k=6 then (match kids,ts with
  | a::_,t::_=>s++withinT a 7 t
  | _,_=>[])
 else if k=7 then (match kids,ts with
  | a::b::_,t::u::_=>withinT a (levelOf s) t++[32]++s++[32]++withinT b (levelOf s+1) u
  | _,_=>[])
 else if k=8 then (match kids,ts with
  | a::_,t::u::_=>withinT a 8 t++[91]++u++[93]
  | _,_=>[])
 else if k=9 then (match kids,ts with
  | a::_,t::_=>withinT a 8 t++[46]++s
  | _,_=>[])
 else if k=10 then [91]++joinT ts++[93]
 else [110,101,119,32]++s++[40]++joinT ts++[41]
mutual
def txE:Ez→List UInt8
 | .mk k s n kids _=>txK k s n kids (txL kids)
def txL:List Ez→List (List UInt8)
 | []=>[]
 | x::xs=>txE x::txL xs
end
theorem txL_map (l:List Ez):txL l=l.map txE:=by
 induction l with
 | nil=>rfl
 | cons x xs ih=>rw [txL,ih];rfl
theorem tok_name (s:List UInt8):tokO 1 0 s=if nameQ s=true then some s else none:=by
 unfold tokO
 rw [tkB_refT 1 0 s (by omega)]
 unfold refT
 by_cases h:nameQ s=true <;> simp [h]
theorem tok_text (s:List UInt8):tokO 3 0 s=if plainQ s=true then some (quoteB s) else none:=by
 unfold tokO
 rw [tkB_refT 3 0 s (by omega)]
 unfold refT
 by_cases h:plainQ s=true <;> simp [h]
theorem tok_num (n:Int) (hn:n≤9223372036854775807):tokO 2 n []=if 0≤n then some (Lib.decDigits n.toNat) else none:=by
 unfold tokO
 rw [tkB_refT 2 n [] hn]
 unfold refT
 by_cases h:0≤n <;> simp [h]
theorem joinT_snoc (t:List UInt8):∀(l:List (List UInt8)),joinT (l++[t])=joinT l++((if l=[] then [] else [44,32])++t)
 | []=>rfl
 | [a]=>by simp [joinT]
 | a::b::r=>by
  have ih:=joinT_snoc t (b::r)
  show a++[44,32]++joinT ((b::r)++[t])=_
  rw [ih]
  simp [joinT]
theorem rowX_some (l:List Ez) (f:Ez→Option (List UInt8)) (h:∀y∈l,f y=some (txE y)):∀i,i≤l.length→rowO (l.map f) i=some (joinT ((txL l).take i))
 | 0,_=>by simp [rowO,joinT]
 | i+1,hi=>by
  have ih:=rowX_some l f h i (by omega)
  have hx:l[i]?=some (l[i]'(by omega)):=List.getElem?_eq_getElem (by omega)
  have hg:((l.map f)[i]?).getD none=some (txE (l[i]'(by omega))):=by
   rw [List.getElem?_map,hx]
   exact h _ (List.getElem_mem _)
  have ht:(txL l).take (i+1)=(txL l).take i++[txE (l[i]'(by omega))]:=by
   rw [txL_map,List.take_add_one,List.getElem?_map,hx]
   rfl
  rw [rowO,ih,hg,ht,joinT_snoc]
  have he:((txL l).take i=[])↔i=0:=by
   rw [List.take_eq_nil_iff,txL_map]
   constructor
   ·rintro (h9 | h9)
    ·exact h9
    ·have:=List.map_eq_nil_iff.1 h9
     subst this
     simp at hi
   ·exact fun h9=>.inl h9
  by_cases h0:i=0
  ·rw [if_pos h0,if_pos (he.2 h0)];rfl
  ·rw [if_neg h0,if_neg (fun h9=>h0 (he.1 h9))];rfl
theorem rowX_all (l:List Ez) (f:Ez→Option (List UInt8)) (h:∀y∈l,f y=some (txE y)):rowO (l.map f) l.length=some (joinT (txL l)):=by
 rw [rowX_some l f h _ (Nat.le_refl _),List.take_of_length_le (by rw [txL_map,List.length_map];exact Nat.le_refl _)]
theorem rowX_none {l:List Ez} {f:Ez→Option (List UInt8)} {y:Ez} (hy:y∈l) (h:f y=none):rowO (l.map f) l.length=none:=by
 obtain ⟨i,hi,rfl⟩:=List.getElem_of_mem hy
 refine rowO_stop _ hi ?_
 rw [List.getElem?_map,List.getElem?_eq_getElem hi]
 exact h
theorem rgL_mem {l:List Ez}:rgL l=true↔∀y∈l,rgE y=true:=by
 induction l with
 | nil=>simp [rgL]
 | cons x xs ih=>rw [rgL,Bool.and_eq_true,ih];simp
theorem dpL_mem {l:List Ez} {d:Nat}:dpL l≤d↔∀y∈l,dpE y≤d:=by
 induction l with
 | nil=>simp [dpL]
 | cons x xs ih=>rw [dpL,List.forall_mem_cons,←ih];omega
mutual
def nbE:Ez→Bool
 | .mk _ _ n kids _=>decide (n≤9223372036854775807)&&nbL kids
def nbL:List Ez→Bool
 | []=>true
 | x::xs=>nbE x&&nbL xs
end
theorem nbL_mem {l:List Ez} (h:nbL l=true):∀y∈l,nbE y=true:=by
 induction l with
 | nil=>intro y hy;cases hy
 | cons x xs ih =>
  rw [nbL,Bool.and_eq_true] at h
  intro y hy
  rcases List.mem_cons.1 hy with rfl | hy
  ·exact h.1
  ·exact ih h.2 y hy
theorem kidO_some (x:Ez) (least:Nat) (t:List UInt8):kidO x least (some t)=some (withinT x least t):=by
 unfold kidO withinT
 by_cases h:least≤lvE x
 ·rw [if_pos h,if_neg (by omega)]
 ·rw [if_neg h,if_pos (by omega)];rfl
theorem kidO_none (x:Ez) (least:Nat):kidO x least none=none:=by
 unfold kidO
 split <;> rfl
theorem prB_yes {f:Ez→Option (List UInt8)} {k:Int} {s:List UInt8} {n:Int} {kids:List Ez} (hn:n≤9223372036854775807) (h:∀y∈kids,f y=some (txE y)):prB f k s n kids=if rgK k s n kids.length=true then some (txK k s n kids (txL kids)) else none:=by
 have hr:=rowX_all kids f h
 unfold prB
 by_cases h1:k=1
 ·subst h1
  simp only [isEx,rgK,txK,if_true]
  rw [tok_num n hn]
  by_cases a:s=[] <;> by_cases b:kids.length=0 <;> by_cases c:0≤n <;> simp [a,b,c]
 by_cases h2:k=2
 ·subst h2
  simp only [isEx,rgK,txK]
  by_cases c:n=0
  ·subst c
   by_cases a:s=[] <;> by_cases b:kids.length=0 <;> simp [a,b]
  by_cases e:n=1
  ·subst e
   by_cases a:s=[] <;> by_cases b:kids.length=0 <;> simp [a,b]
  by_cases a:s=[] <;> by_cases b:kids.length=0 <;> simp [a,b,c,e]
 by_cases h3:k=3
 ·subst h3
  simp only [isEx,rgK,txK]
  rw [tok_text]
  by_cases a:n=0 <;> by_cases b:kids.length=0 <;> by_cases c:plainQ s=true <;> simp [a,b,c]
 by_cases h4:k=4
 ·subst h4
  simp only [isEx,rgK,txK]
  rw [tok_name]
  by_cases a:n=0 <;> by_cases b:kids.length=0 <;> by_cases c:nameQ s=true <;> simp [a,b,c]
 by_cases h5:k=5
 ·subst h5
  simp only [isEx,rgK,txK]
  rw [tok_name,hr]
  by_cases a:n=0 <;> by_cases c:nameQ s=true <;> simp [a,c,thenO]
 by_cases h11:k=11
 ·subst h11
  simp only [isEx,rgK,txK]
  rw [tok_name,hr]
  by_cases a:n=0 <;> by_cases c:nameQ s=true <;> simp [a,c,thenO]
 by_cases h10:k=10
 ·subst h10
  simp only [isEx,rgK,txK]
  rw [hr]
  cases kids with
  | nil=>by_cases a:n=0 <;> by_cases c:s=[] <;> simp [a,c]
  | cons y ys=>by_cases a:n=0 <;> by_cases c:s=[] <;> simp [a,c,thenO]
 by_cases h6:k=6
 ·subst h6
  simp only [isEx,rgK,txK]
  by_cases b:kids.length=1
  ·obtain ⟨a,rfl⟩:=List.length_eq_one_iff.1 b
   have ha:=h a (by simp)
   by_cases c:n=0 <;> by_cases e:s=[45] <;> by_cases g:s=[33] <;> simp [c,e,g,ha,kidO_some,thenO,txL]
  ·simp [b]
 by_cases h7:k=7
 ·subst h7
  simp only [isEx,rgK,txK]
  by_cases b:kids.length=2
  ·obtain ⟨a,c,rfl⟩:∃a c,kids=[a,c]:=by match kids,b with | [a,c],_=>exact ⟨a,c,rfl⟩
   have ha:=h a (by simp)
   have hc:=h c (by simp)
   by_cases e:n=0 <;> by_cases g:0<levelOf s <;> simp [e,g,ha,hc,kidO_some,thenO,txL]
  ·simp [b]
 by_cases h8:k=8
 ·subst h8
  simp only [isEx,rgK,txK]
  by_cases b:kids.length=2
  ·obtain ⟨a,c,rfl⟩:∃a c,kids=[a,c]:=by match kids,b with | [a,c],_=>exact ⟨a,c,rfl⟩
   have ha:=h a (by simp)
   have hc:=h c (by simp)
   by_cases e:n=0 <;> by_cases g:s=[] <;> simp [e,g,ha,hc,kidO_some,thenO,txL]
  ·simp [b]
 by_cases h9:k=9
 ·subst h9
  simp only [isEx,rgK,txK]
  rw [tok_name]
  by_cases b:kids.length=1
  ·obtain ⟨a,rfl⟩:=List.length_eq_one_iff.1 b
   have ha:=h a (by simp)
   by_cases c:n=0 <;> by_cases g:nameQ s=true <;> simp [c,g,ha,kidO_some,thenO,txL]
  ·simp [b]
 simp [isEx,rgK,h1,h2,h3,h4,h5,h6,h7,h8,h9,h10,h11]
theorem prB_no {f:Ez→Option (List UInt8)} {k:Int} {s:List UInt8} {n:Int} {kids:List Ez} {y:Ez} (hy:y∈kids) (h:f y=none):prB f k s n kids=none:=by
 have hr:=rowX_none hy h
 have hl:kids.length≠0:=by
  intro e
  rw [List.length_eq_zero_iff.1 e] at hy
  cases hy
 unfold prB
 by_cases hex:isEx k s n kids.length=true
 ·rw [if_pos hex]
  unfold isEx at hex
  by_cases h1:k=1
  ·subst h1;simp [hl] at hex
  by_cases h2:k=2
  ·subst h2;simp [hl] at hex
  by_cases h3:k=3
  ·subst h3;simp [hl] at hex
  by_cases h4:k=4
  ·subst h4;simp [hl] at hex
  rw [if_neg h1,if_neg h2,if_neg h3,if_neg h4]
  by_cases h5:k=5
  ·rw [if_pos h5,hr]
   cases tokO 1 0 s <;> rfl
  rw [if_neg h5]
  by_cases h11:k=11
  ·rw [if_pos h11,hr]
   cases tokO 1 0 s <;> rfl
  rw [if_neg h11]
  by_cases h10:k=10
  ·rw [if_pos h10,hr];rfl
  rw [if_neg h10]
  by_cases h6:k=6
  ·subst h6
   simp at hex
   obtain ⟨a,rfl⟩:=List.length_eq_one_iff.1 hex.1.2
   obtain rfl:y=a:=by simpa using hy
   simp [h,kidO_none,thenO]
  rw [if_neg h6]
  by_cases h7:k=7
  ·subst h7
   simp at hex
   obtain ⟨a,c,rfl⟩:∃a c,kids=[a,c]:=by match kids,hex.1.2 with | [a,c],_=>exact ⟨a,c,rfl⟩
   simp only [List.mem_cons,List.not_mem_nil,or_false] at hy
   rcases hy with rfl | rfl
   ·simp [h,kidO_none,thenO]
   ·simp only [h,kidO_none]
    cases kidO a (levelOf s) (f a) <;> rfl
  rw [if_neg h7]
  by_cases h8:k=8
  ·subst h8
   simp at hex
   obtain ⟨a,c,rfl⟩:∃a c,kids=[a,c]:=by match kids,hex.1.2 with | [a,c],_=>exact ⟨a,c,rfl⟩
   simp only [List.mem_cons,List.not_mem_nil,or_false] at hy
   rcases hy with rfl | rfl
   ·simp [h,kidO_none,thenO]
   ·simp only [h]
    cases kidO a 8 (f a) <;> rfl
  rw [if_neg h8]
  by_cases h9:k=9
  ·subst h9
   simp at hex
   obtain ⟨a,rfl⟩:=List.length_eq_one_iff.1 hex.2
   obtain rfl:y=a:=by simpa using hy
   simp [h,kidO_none,thenO]
  rw [if_neg h9]
 ·rw [if_neg hex]
theorem prE_tx:∀(d:Nat) (x:Ez),nbE x=true→prE d x=if rgE x=true∧dpE x≤d then some (txE x) else none
 | 0,.mk k s n kids line,_=>by
  rw [if_neg (by rw [dpE];omega)]
  rfl
 | d+1,.mk k s n kids line,hb=>by
  rw [nbE,Bool.and_eq_true,decide_eq_true_eq] at hb
  have ih:∀y∈kids,prE d y=if rgE y=true∧dpE y≤d then some (txE y) else none:=fun y hy=>prE_tx d y (nbL_mem hb.2 y hy)
  rw [prE_succ,rgE,dpE,txE]
  by_cases hA:∀y∈kids,rgE y=true∧dpE y≤d
  ·have hr:rgL kids=true:=rgL_mem.2 fun y hy=>(hA y hy).1
   have hd:dpL kids≤d:=dpL_mem.2 fun y hy=>(hA y hy).2
   rw [prB_yes hb.1 fun y hy=>by rw [ih y hy,if_pos (hA y hy)]]
   by_cases hk:rgK k s n kids.length=true
   ·rw [if_pos hk,if_pos ⟨by rw [hr,hk];rfl,by omega⟩]
   ·rw [if_neg hk,if_neg (fun h9=>hk (by have:=h9.1;rw [Bool.and_eq_true] at this;exact this.2))]
  ·have hA':∃y∈kids,¬ (rgE y=true∧dpE y≤d):=by
    refine Classical.byContradiction fun h9=>hA fun y hy=>?_
    exact Classical.byContradiction fun h8=>h9 ⟨y,hy,h8⟩
   obtain ⟨y,hy,hno⟩:=hA'
   rw [prB_no hy (by rw [ih y hy,if_neg hno]),if_neg ?_]
   rintro ⟨h1,h2⟩
   rw [Bool.and_eq_true] at h1
   exact hno ⟨rgL_mem.1 h1.1 y hy,(dpL_mem (d:=d)).1 (by omega) y hy⟩
end Go.Proofs.YtghhamgealkodaaGreatDoor
