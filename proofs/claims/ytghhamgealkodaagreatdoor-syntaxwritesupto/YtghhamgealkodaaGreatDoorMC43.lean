import Derived.Test.YtghhamgealkodaaGreatDoorMC4
import Derived.Test.YtghhamgealkodaaGreatDoorMC7
import Derived.Test.YtghhamgealkodaaGreatDoorMC6
namespace Go.Proofs.YtghhamgealkodaaGreatDoor
open Go.RowKit
theorem takeWhile_out {p:UInt8→Bool} (z:List UInt8):∀r:List UInt8,(r.takeWhile p).length=r.length→(r++z).takeWhile p=r++z.takeWhile p
 | [],_=>rfl
 | y::r,h=>by
  rw [List.cons_append]
  by_cases hy:p y=true
  ·rw [List.takeWhile_cons_of_pos hy] at h ⊢
   rw [takeWhile_out z r (by simpa using h)];rfl
  ·rw [List.takeWhile_cons_of_neg hy] at h;simp at h
theorem takeWhile_every {p:UInt8→Bool}:∀r:List UInt8,(∀x∈r,p x=true)→r.takeWhile p=r
 | [],_=>rfl
 | y::r,h=>by rw [List.takeWhile_cons_of_pos (h y (List.mem_cons_self ..)),takeWhile_every r (fun x hx=>h x (List.mem_cons_of_mem _ hx))]
end Go.Proofs.YtghhamgealkodaaGreatDoor
namespace Go.Proofs.YtghhamgealkodaaGreatDoor
open Go.RowKit Go.Shelf
def okC (c:UInt8):Bool:=c.toNat==10||(decide (32≤c.toNat)&&decide (c.toNat≤126))
def plainQ (s:List UInt8):Bool:=s.all okC&&decide (s.length≤255)
theorem okC_iff (c:UInt8):okC c=true↔(c.toNat=10∨(32≤c.toNat∧c.toNat≤126)):=by
 unfold okC;simp
theorem esc_ok {c:UInt8} (h:okC c=true) (t:List UInt8):tbR (escB c++t)=(c.toNat,(escB c).length)∧(escB c++t).head?≠some 34∧1≤(escB c).length:=by
 rw [okC_iff] at h
 unfold escB
 by_cases h1:c.toNat=92
 ·rw [if_pos h1,h1]
  exact ⟨rfl,by simp,by decide⟩
 ·rw [if_neg h1]
  by_cases h2:c.toNat=34
  ·rw [if_pos h2,h2]
   exact ⟨rfl,by simp,by decide⟩
  ·rw [if_neg h2]
   by_cases h3:c.toNat=10
   ·rw [if_pos h3,h3]
    exact ⟨rfl,by simp,by decide⟩
   ·rw [if_neg h3]
    refine ⟨?_,?_,by simp⟩
    ·rw [List.cons_append,tbR_one (by omega) h1];rfl
    ·intro e
     simp at e
     rw [e] at h2
     exact h2 rfl
theorem esc_bad {c:UInt8} (h:okC c=false) (t:List UInt8):escB c=[c]∧tbR (c::t)=(0,0)∧c.toNat≠34:=by
 have h':¬ (c.toNat=10∨(32≤c.toNat∧c.toNat≤126)):=fun e=>by rw [(okC_iff c).2 e] at h;cases h
 refine ⟨?_,tbR_bad (by omega),by omega⟩
 unfold escB
 rw [if_neg (by omega),if_neg (by omega),if_neg (by omega)]
theorem toUInt8_of (c:UInt8):c.toNat.toUInt8=c:=UInt8.toNat_inj.1 (Lib.toUInt8_toNat (UInt8.toNat_lt c))
theorem textF_step {f:Nat} {meant t:List UInt8} {at0:Nat} {x:UInt8} {r:List UInt8} (h34:x.toNat≠34) {c sz:Nat} (htb:tbR (x::r)=(c,sz)) (hsz:sz≠0) (hd:(x::r).drop sz=t) :
  textF (f+1) meant at0 (x::r)=if meant.length=255 then ⟨0,[],0,0,5⟩ else textF f (meant++[c.toUInt8]) (at0+sz) t:=by
 conv=>lhs;unfold textF
 rw [if_neg h34,htb,if_neg hsz]
 simp only [hd]
theorem textF_esc (t:List UInt8):∀(s meant:List UInt8) (f at0:Nat),(s.flatMap escB).length<f→s.all okC=true→meant.length+s.length≤255 →
  textF f meant at0 (s.flatMap escB++34::t)=⟨3,meant++s,0,at0+(s.flatMap escB).length+1,0⟩
 | [],meant,f,at0,hf,_,_=>by
  obtain ⟨f,rfl⟩:∃g,f=g+1:=⟨f-1,by simp at hf;omega⟩
  simp only [List.flatMap_nil,List.nil_append,List.append_nil,List.length_nil,Nat.add_zero]
  unfold textF
  rw [if_pos (by decide)]
 | c::s,meant,f,at0,hf,hok,hl=>by
  rw [List.all_cons,Bool.and_eq_true] at hok
  rw [List.flatMap_cons,List.length_append] at hf
  rw [List.length_cons] at hl
  obtain ⟨f,rfl⟩:∃g,f=g+1:=⟨f-1,by omega⟩
  obtain ⟨h1,h2,h3⟩:=esc_ok hok.1 (s.flatMap escB++34::t)
  have hcat:(c::s).flatMap escB++34::t=escB c++(s.flatMap escB++34::t):=by rw [List.flatMap_cons,List.append_assoc]
  have ih:=textF_esc t s (meant++[c]) f (at0+(escB c).length) (by omega) hok.2 (by rw [List.length_append,List.length_singleton];omega)
  rw [hcat]
  obtain ⟨x,r,hxr⟩:∃x r,escB c++(s.flatMap escB++34::t)=x::r:=by
   cases h9:escB c++(s.flatMap escB++34::t) with
   | nil =>
    have:=congrArg List.length h9
    rw [List.length_append,List.length_nil] at this
    omega
   | cons x r=>exact ⟨x,r,rfl⟩
  have hdr:(x::r).drop (escB c).length=s.flatMap escB++34::t:=by rw [←hxr,List.drop_left]
  rw [hxr] at h1 h2
  rw [hxr,textF_step (fun e=>h2 (by rw [List.head?_cons,show x=34 from UInt8.toNat_inj.1 e])) h1 (by omega) hdr,if_neg (by omega),toUInt8_of,ih,List.flatMap_cons,List.length_append]
  simp only [TR.mk.injEq,List.append_assoc,List.singleton_append,true_and,and_true]
  omega
theorem textF_esc_bad (t:List UInt8):∀(s meant:List UInt8) (f at0:Nat),meant.length≤255→(s.all okC=false∨255<meant.length+s.length)→(textF f meant at0 (s.flatMap escB++34::t)).e≠0
 | [],meant,f,at0,hm,h=>by
  rcases h with h | h
  ·simp at h
  ·simp at h;omega
 | c::s,meant,0,at0,hm,h=>by
  show (textF 0 _ _ _).e≠0
  unfold textF
  simp
 | c::s,meant,f+1,at0,hm,h=>by
  have hcat:(c::s).flatMap escB++34::t=escB c++(s.flatMap escB++34::t):=by rw [List.flatMap_cons,List.append_assoc]
  rw [hcat]
  cases hok:okC c with
  | false =>
   obtain ⟨h1,h2,h3⟩:=esc_bad hok (s.flatMap escB++34::t)
   rw [h1,List.singleton_append]
   unfold textF
   rw [if_neg h3,h2,if_pos rfl]
   simp
  | true =>
   obtain ⟨h1,h2,h3⟩:=esc_ok hok (s.flatMap escB++34::t)
   obtain ⟨x,r,hxr⟩:∃x r,escB c++(s.flatMap escB++34::t)=x::r:=by
    cases h9:escB c++(s.flatMap escB++34::t) with
    | nil =>
     have:=congrArg List.length h9
     rw [List.length_append,List.length_nil] at this
     omega
    | cons x r=>exact ⟨x,r,rfl⟩
   have hdr:(x::r).drop (escB c).length=s.flatMap escB++34::t:=by rw [←hxr,List.drop_left]
   rw [hxr] at h1 h2
   rw [hxr,textF_step (fun e=>h2 (by rw [List.head?_cons,show x=34 from UInt8.toNat_inj.1 e])) h1 (by omega) hdr]
   by_cases h255:meant.length=255
   ·rw [if_pos h255];simp
   ·rw [if_neg h255]
    refine textF_esc_bad t s _ f _ (by rw [List.length_append,List.length_singleton];omega) ?_
    rcases h with h | h
    ·rw [List.all_cons,hok,Bool.true_and] at h;exact .inl h
    ·rw [List.length_cons] at h;right;rw [List.length_append,List.length_singleton];omega
theorem tokT_quote (s t:List UInt8) (hp:plainQ s=true):tokT (quoteB s++t)=⟨3,s,0,(quoteB s).length,0⟩:=by
 unfold plainQ at hp
 rw [Bool.and_eq_true,decide_eq_true_eq] at hp
 have hq:quoteB s++t=34::(s.flatMap escB++34::t):=by unfold quoteB;simp
 have hlen:(quoteB s).length=(s.flatMap escB).length+2:=by unfold quoteB;simp
 rw [hq]
 have h1:tokT (34::(s.flatMap escB++34::t))=textT (34::(s.flatMap escB++34::t)):=rfl
 rw [h1]
 unfold textT
 rw [List.drop_succ_cons,List.drop_zero,textF_esc t s [] _ 1 (by simp;omega) hp.1 (by simp;omega),hlen]
 simp only [List.nil_append,TR.mk.injEq,true_and,and_true]
 omega
theorem tokT_quote_bad (s:List UInt8) (hp:plainQ s=false):(tokT (quoteB s)).e≠0:=by
 have hq:quoteB s=34::(s.flatMap escB++34::[]):=rfl
 rw [hq]
 have h1:tokT (34::(s.flatMap escB++34::[]))=textT (34::(s.flatMap escB++34::[])):=rfl
 rw [h1]
 unfold textT
 rw [List.drop_succ_cons,List.drop_zero]
 refine textF_esc_bad [] s [] _ 1 (by simp) ?_
 unfold plainQ at hp
 rw [Bool.and_eq_false_iff] at hp
 rcases hp with h | h
 ·exact .inl h
 ·right
  rw [decide_eq_false_iff_not] at h
  simp
  omega
theorem strB_append (a b:List UInt8):strB a++strB b=strB (a++b):=by
 apply ByteArray.ext
 rw [ByteArray.data_append]
 unfold strB
 simp
end Go.Proofs.YtghhamgealkodaaGreatDoor
