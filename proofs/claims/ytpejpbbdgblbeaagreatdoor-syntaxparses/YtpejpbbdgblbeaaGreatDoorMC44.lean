import Derived.Test.YtpejpbbdgblbeaaGreatDoorMC4
import Derived.Test.YtpejpbbdgblbeaaGreatDoorMC7
import Derived.Test.YtpejpbbdgblbeaaGreatDoorMC6
namespace Go.Proofs.YtpejpbbdgblbeaaGreatDoor
open Go.RowKit
set_option maxHeartbeats 16000000
set_option maxRecDepth 100000
theorem Vu {p:UInt8→Bool} (z:List UInt8):∀r:List UInt8,(r.takeWhile p).length=r.length→(r++z).takeWhile p=r++z.takeWhile p
 | [],_=>rfl
 | y::r,h=>by
  rw [List.cons_append]
  by_cases hy:p y=true
  ·rw [List.takeWhile_cons_of_pos hy] at h ⊢
   rw [Vu z r (by simpa using h)];rfl
  ·rw [List.takeWhile_cons_of_neg hy] at h;simp at h
theorem xQ {p:UInt8→Bool}:∀r:List UInt8,(∀x∈r,p x=true)→r.takeWhile p=r
 | [],_=>rfl
 | y::r,h=>by rw [List.takeWhile_cons_of_pos (h y (List.mem_cons_self ..)),xQ r (fun x hx=>h x (List.mem_cons_of_mem _ hx))]
theorem zbg:Yn []=0:=by
 rw [vv]
 rfl
end Go.Proofs.YtpejpbbdgblbeaaGreatDoor
namespace Go.Proofs.YtpejpbbdgblbeaaGreatDoor
open Go.RowKit Go.Shelf
set_option maxHeartbeats 16000000
set_option maxRecDepth 100000
def okC (c:UInt8):Bool:=c.toNat==10||(decide (32≤c.toNat)&&decide (c.toNat≤126))
def vw (s:List UInt8):Bool:=s.all okC&&decide (s.length≤255)
theorem zan (c:UInt8):okC c=true↔(c.toNat=10∨(32≤c.toNat∧c.toNat≤126)):=by
 unfold okC;simp
theorem zfs {c:UInt8} (h:okC c=true) (t:List UInt8):XV (ZE c++t)=(c.toNat,(ZE c).length)∧(ZE c++t).head?≠some 34∧1≤(ZE c).length:=by
 rw [zan] at h
 unfold ZE
 by_cases h1:c.toNat=92
 ·rw [if_pos h1,h1]
  exact ⟨rfl,by simp,by decide⟩
 ·rw [if_neg h1]
  by_cases h2:c.toNat=34
  ·rw [if_pos h2,h2]
   exact ⟨rfl,by simp,by decide⟩
  ·rw [if_neg h2]
   by_cases h3:c.toNat=10
   ·rw [if_pos h3,h3]
    exact ⟨rfl,by simp,by decide⟩
   ·rw [if_neg h3]
    refine ⟨?_,?_,by simp⟩
    ·rw [List.cons_append,uj (by omega) h1];rfl
    ·intro e
     simp at e
     rw [e] at h2;exact h2 rfl
theorem zgC {c:UInt8} (h:okC c=false) (t:List UInt8):ZE c=[c]∧XV (c::t)=(0,0)∧c.toNat≠34:=by
 have h':¬ (c.toNat=10∨(32≤c.toNat∧c.toNat≤126)):=fun e=>by rw [(zan c).2 e] at h;cases h
 refine ⟨?_,ui (by omega),by omega⟩
 unfold ZE
 rw [if_neg (by omega),if_neg (by omega),if_neg (by omega)]
theorem U0 (c:UInt8):c.toNat.toUInt8=c:=UInt8.toNat_inj.1 (Lib.toUInt8_toNat (UInt8.toNat_lt c))
theorem vx {f:Nat} {meant t:List UInt8} {at0:Nat} {x:UInt8} {r:List UInt8} (h34:x.toNat≠34) {c sz:Nat} (htb:XV (x::r)=(c,sz)) (hsz:sz≠0) (hd:(x::r).drop sz=t) :
  Ze (f+1) meant at0 (x::r)=if meant.length=255 then ⟨0,[],0,0,5⟩ else Ze f (meant++[c.toUInt8]) (at0+sz) t:=by
 conv=>lhs;unfold Ze
 rw [if_neg h34,htb,if_neg hsz];simp only [hd]
theorem QK (t:List UInt8):∀(s meant:List UInt8) (f at0:Nat),(s.flatMap ZE).length<f→s.all okC=true→meant.length+s.length≤255 →
  Ze f meant at0 (s.flatMap ZE++34::t)=⟨3,meant++s,0,at0+(s.flatMap ZE).length+1,0⟩
 | [],meant,f,at0,hf,_,_=>by
  obtain ⟨f,rfl⟩:∃g,f=g+1:=⟨f-1,by simp at hf;omega⟩
  simp only [List.flatMap_nil,List.nil_append,List.append_nil,List.length_nil,Nat.add_zero]
  unfold Ze
  rw [if_pos (by decide)]
 | c::s,meant,f,at0,hf,hok,hl=>by
  rw [List.all_cons,Bool.and_eq_true] at hok;rw [List.flatMap_cons,List.length_append] at hf;rw [List.length_cons] at hl;obtain ⟨f,rfl⟩:∃g,f=g+1:=⟨f-1,by omega⟩
  obtain ⟨h1,h2,h3⟩:=zfs hok.1 (s.flatMap ZE++34::t);have hcat:(c::s).flatMap ZE++34::t=ZE c++(s.flatMap ZE++34::t):=by rw [List.flatMap_cons,List.append_assoc]
  have ih:=QK t s (meant++[c]) f (at0+(ZE c).length) (by omega) hok.2 (by rw [List.length_append,List.length_singleton];omega)
  rw [hcat]
  obtain ⟨x,r,hxr⟩:∃x r,ZE c++(s.flatMap ZE++34::t)=x::r:=by
   cases h9:ZE c++(s.flatMap ZE++34::t) with
   | nil =>
    have:=congrArg List.length h9
    rw [List.length_append,List.length_nil] at this;omega
   | cons x r=>exact ⟨x,r,rfl⟩
  have hdr:(x::r).drop (ZE c).length=s.flatMap ZE++34::t:=by rw [←hxr,List.drop_left]
  rw [hxr] at h1 h2;rw [hxr,vx (fun e=>h2 (by rw [List.head?_cons,show x=34 from UInt8.toNat_inj.1 e])) h1 (by omega) hdr,if_neg (by omega),U0,ih,List.flatMap_cons,List.length_append]
  simp only [TR.mk.injEq,List.append_assoc,List.singleton_append,true_and,and_true];omega
theorem Vv (t:List UInt8):∀(s meant:List UInt8) (f at0:Nat),meant.length≤255→(s.all okC=false∨255<meant.length+s.length)→(Ze f meant at0 (s.flatMap ZE++34::t)).e≠0
 | [],meant,f,at0,hm,h=>by
  rcases h with h | h
  ·simp at h
  ·simp at h;omega
 | c::s,meant,0,at0,hm,h=>by
  show (Ze 0 _ _ _).e≠0
  unfold Ze
  simp
 | c::s,meant,f+1,at0,hm,h=>by
  have hcat:(c::s).flatMap ZE++34::t=ZE c++(s.flatMap ZE++34::t):=by rw [List.flatMap_cons,List.append_assoc]
  rw [hcat];cases hok:okC c with
  | false =>
   obtain ⟨h1,h2,h3⟩:=zgC hok (s.flatMap ZE++34::t);rw [h1,List.singleton_append]
   unfold Ze
   rw [if_neg h3,h2,if_pos rfl]
   simp
  | true =>
   obtain ⟨h1,h2,h3⟩:=zfs hok (s.flatMap ZE++34::t)
   obtain ⟨x,r,hxr⟩:∃x r,ZE c++(s.flatMap ZE++34::t)=x::r:=by
    cases h9:ZE c++(s.flatMap ZE++34::t) with
    | nil =>
     have:=congrArg List.length h9
     rw [List.length_append,List.length_nil] at this;omega
    | cons x r=>exact ⟨x,r,rfl⟩
   have hdr:(x::r).drop (ZE c).length=s.flatMap ZE++34::t:=by rw [←hxr,List.drop_left]
   rw [hxr] at h1 h2;rw [hxr,vx (fun e=>h2 (by rw [List.head?_cons,show x=34 from UInt8.toNat_inj.1 e])) h1 (by omega) hdr]
   by_cases h255:meant.length=255
   ·rw [if_pos h255];simp
   ·rw [if_neg h255]
    refine Vv t s _ f _ (by rw [List.length_append,List.length_singleton];omega) ?_
    rcases h with h | h
    ·rw [List.all_cons,hok,Bool.true_and] at h;exact .inl h
    ·rw [List.length_cons] at h;right;rw [List.length_append,List.length_singleton];omega
theorem U1 (s t:List UInt8) (hp:vw s=true):Zc (Ya s++t)=⟨3,s,0,(Ya s).length,0⟩:=by
 unfold vw at hp
 rw [Bool.and_eq_true,decide_eq_true_eq] at hp;have hq:Ya s++t=34::(s.flatMap ZE++34::t):=by unfold Ya;simp
 have hlen:(Ya s).length=(s.flatMap ZE).length+2:=by unfold Ya;simp
 rw [hq];have h1:Zc (34::(s.flatMap ZE++34::t))=ZI (34::(s.flatMap ZE++34::t)):=rfl;rw [h1]
 unfold ZI
 rw [List.drop_succ_cons,List.drop_zero,QK t s [] _ 1 (by simp;omega) hp.1 (by simp;omega),hlen]
 simp only [List.nil_append,TR.mk.injEq,true_and,and_true];omega
theorem U2 (s:List UInt8) (hp:vw s=false):(Zc (Ya s)).e≠0:=by
 have hq:Ya s=34::(s.flatMap ZE++34::[]):=rfl;rw [hq];have h1:Zc (34::(s.flatMap ZE++34::[]))=ZI (34::(s.flatMap ZE++34::[])):=rfl;rw [h1]
 unfold ZI
 rw [List.drop_succ_cons,List.drop_zero];refine Vv [] s [] _ 1 (by simp) ?_
 unfold vw at hp
 rw [Bool.and_eq_false_iff] at hp;rcases hp with h | h
 ·exact .inl h
 ·right
  rw [decide_eq_false_iff_not] at h
  simp
  omega
theorem VO:∀(f:Nat) (meant:List UInt8) (at0:Nat) (r:List UInt8),meant.length≤255→(Ze f meant at0 r).e=0 →
  ∃m1 rest,(Ze f meant at0 r).s=meant++m1∧r=m1.flatMap ZE++34::rest∧m1.all okC=true∧(meant++m1).length≤255
 | 0,_,_,_,_,h=>by simp [Ze] at h
 | _+1,_,_,[],_,h=>by simp [Ze] at h
 | f+1,meant,at0,x::r,hm,h=>by
  by_cases h1:x.toNat=34
  ·have hx:x=34:=UInt8.toNat_inj.1 h1
   refine ⟨[],r,?_,?_,rfl,by simpa using hm⟩
   ·unfold Ze;rw [if_pos h1];simp
   ·rw [hx];rfl
  ·by_cases hbad:x.toNat<32∨126<x.toNat
   ·unfold Ze at h
    rw [if_neg h1,ui hbad,if_pos rfl] at h
    simp at h
   ·by_cases h92:x.toNat=92
    ·cases r with
     | nil =>
      unfold Ze at h
      rw [if_neg h1,UI hbad h92,if_pos rfl] at h
      simp at h
     | cons y t =>
      have htb:XV (x::y::t)=tbE y.toNat:=UJ hbad h92;have hx:x=92:=UInt8.toNat_inj.1 h92
      have key:∀c:Nat,c<256→okC c.toUInt8=true→ZE c.toUInt8=[92,y]→tbE y.toNat=(c,2)→∃m1 rest,(Ze (f+1) meant at0 (x::y::t)).s=meant++m1∧x::y::t=m1.flatMap ZE++34::rest∧m1.all okC=true∧(meant++m1).length≤255:=by
       intro c hc hok hesc hte;rw [hte] at htb;have hst:=vx (f:=f) (meant:=meant) (at0:=at0) h1 htb (by decide) rfl
       rw [hst] at h ⊢
       by_cases h255:meant.length=255
       ·rw [if_pos h255] at h;simp at h
       ·rw [if_neg h255] at h ⊢
        obtain ⟨m1,rest,i1,i2,i3,i4⟩:=VO f _ _ _ (by rw [List.length_append,List.length_singleton];omega) h
        refine ⟨c.toUInt8::m1,rest,by rw [i1];simp,?_,by rw [List.all_cons,hok,i3];rfl,by simpa using i4⟩
        rw [List.flatMap_cons,hesc,List.append_assoc,←i2,hx]
        rfl
      by_cases y92:y.toNat=92
      ·have hy:y=92:=UInt8.toNat_inj.1 y92
       exact key 92 (by decide) (by decide) (by rw [hy];decide) (by rw [y92];rfl)
      ·by_cases y34:y.toNat=34
       ·have hy:y=34:=UInt8.toNat_inj.1 y34
        exact key 34 (by decide) (by decide) (by rw [hy];decide) (by rw [y34];rfl)
       ·by_cases y110:y.toNat=110
        ·have hy:y=110:=UInt8.toNat_inj.1 y110
         exact key 10 (by decide) (by decide) (by rw [hy];decide) (by rw [y110];rfl)
        ·have hte:tbE y.toNat=(0,0):=by unfold tbE;rw [if_neg y92,if_neg y34,if_neg y110]
         unfold Ze at h
         rw [if_neg h1,htb,hte,if_pos rfl] at h
         simp at h
    ·have htb:XV (x::r)=(x.toNat,1):=uj hbad h92
     have hst:=vx (f:=f) (meant:=meant) (at0:=at0) h1 htb (by decide) rfl
     rw [hst] at h ⊢
     by_cases h255:meant.length=255
     ·rw [if_pos h255] at h;simp at h
     ·rw [if_neg h255,U0] at h ⊢
      obtain ⟨m1,rest,i1,i2,i3,i4⟩:=VO f _ _ _ (by rw [List.length_append,List.length_singleton];omega) h
      have hok:okC x=true:=(zan x).2 (.inr (by omega))
      have hesc:ZE x=[x]:=by unfold ZE;rw [if_neg h92,if_neg h1,if_neg (by omega)]
      refine ⟨x::m1,rest,by rw [i1];simp,?_,by rw [List.all_cons,hok,i3];rfl,by simpa using i4⟩
      rw [List.flatMap_cons,hesc,List.append_assoc,←i2]
      rfl
def inL (xs:List (List UInt8)) (l:List UInt8):Bool:=xs.contains l
theorem zef (xs:List (List UInt8)) (l:List UInt8) (g cap:Nat) (w:World) (hx:xs.length≤1000) (hc:∀j (h:j<xs.length),w.cell? ⟨g,j,none⟩=some (.string (za xs[j]))) :
  Calls Tryz.prog 137 #[.slice (some ⟨g,0,none⟩) xs.length cap,.string (za l)] w fun e w'=>e=.returned (.bool (inL xs l))∧w=w':=by
 have HC:Hid (∀j (h:j<xs.length),w.cell? ⟨g,j,none⟩=some (.string (za xs[j]))):=hc;clear hc
 go_enter Tryz.func137,Tryz.ntmps137
 go_wp2
 go_loop [5] (fun v=>∃i:Nat,i≤xs.length∧v=.int .i64 i∧∀x∈xs.take i,x≠l) (fun v=>xs.length-(intOf v).toNat)
 case atStart=>exact ⟨0,Nat.zero_le _,rfl,fun x hx=>by simp at hx⟩
 case round =>
  obtain ⟨i,hi,rfl,hall⟩:=hrel;have HA:Hid (∀x∈xs.take i,x≠l):=hall;clear hall
  by_cases hlt:i<xs.length
  ·have hcell:=HC.out i hlt
   obtain ⟨x,hx⟩:∃x,x=xs[i]'hlt:=⟨_,rfl⟩;rw [←hx] at hcell;have HX:Hid (x=xs[i]'hlt):=hx;clear hx
   by_cases he:x=l
   ·subst he
    have HW:Hid (inL xs x=true):=show xs.contains x=true by rw [List.contains_iff_mem,HX.out];exact List.getElem_mem hlt
    go_wp2
    go_ret
    rw [HW.out];exact ⟨rfl,rfl⟩
   ·have HE:Hid (x≠l):=he
    have hb:(x==l)=false:=by rw [zgq];exact decide_eq_false he
    clear he;go_wp2
    refine ⟨⟨i+1,by omega,by go_num,fun y hy=>?_⟩,?_⟩
    ·rw [List.take_succ_eq_append_getElem hlt] at hy
     rcases List.mem_append.1 hy with h | h
     ·exact HA.out y h
     ·rw [List.mem_singleton] at h;rw [h,←HX.out];exact HE.out
    ·simp [intOf];omega
  ·obtain rfl:i=xs.length:=by omega
   have HW:Hid (inL xs l=false):=show xs.contains l=false by
    rw [Bool.eq_false_iff,ne_eq,List.contains_iff_mem];intro h;exact HA.out l (by rw [List.take_length];exact h) rfl
   go_wp2
   go_ret
   rw [HW.out];exact ⟨rfl,rfl⟩
theorem zao (w:World) :
  Calls Tryz.prog 138 #[] w fun e w'=>e=.returned (.slice (some ⟨w.heap.size,0,none⟩) 10 10)∧w'=w.alloc (.cells (wordsL.map fun x=>Value.string (za x)).toArray 9):=by
 go_enter Tryz.func138,Tryz.ntmps138
 go_wp2
 go_ret
 exact ⟨rfl,rfl⟩
theorem Uo (l:List UInt8) (w:World) :
  Calls Tryz.prog 103 #[.string (za l)] w fun e w'=>e=.returned (.bool (yZ l))∧Below w.heap.size w w':=by
 have hB:Below w.heap.size w (w.alloc (.cells (wordsL.map fun x=>Value.string (za x)).toArray 9)):=(Below.refl _ w).alloc (Nat.le_refl _) _
 have HI:Hid (Calls Tryz.prog 137 #[.slice (some ⟨w.heap.size,0,none⟩) 10 10,.string (za l)] (w.alloc (.cells (wordsL.map fun x=>Value.string (za x)).toArray 9)) fun e w'=>e=.returned (.bool (inL wordsL l))∧(w.alloc (.cells (wordsL.map fun x=>Value.string (za x)).toArray 9))=w') :=
  zef wordsL l w.heap.size 10 _ (by decide) (fun j h=>by
   rw [cell_of_row _ _ _ _ _ _ (World.alloc_heap_new w _)]
   simp [h])
 have HB:Hid (Below w.heap.size w (w.alloc (.cells (wordsL.map fun x=>Value.string (za x)).toArray 9))):=hB
 clear hB
 go_enter Tryz.func103,Tryz.ntmps103
 go_wp2_with fail
 refine (zao w).mono ?_;rintro e w1 ⟨rfl,rfl⟩;go_wp2_with fail
 refine HI.out.mono ?_;rintro e w2 ⟨rfl,rfl⟩;go_wp2
 go_ret
 exact ⟨rfl,HB.out⟩
theorem xi (n:Nat) (w:World) (hn:n<256) :
  Calls Tryz.prog 102 #[.int .u8 n] w fun e w'=>e=.returned (.bool (Zn n))∧w=w':=by
 go_enter Tryz.func102,Tryz.ntmps102
 go_wp2
 all_goals go_ret
 all_goals refine ⟨zaU ?_,rfl⟩
 all_goals (rw [Bool.eq_iff_iff];simp [Zn];try omega)
theorem YT (n:Nat) (w:World) (hn:n<256) :
  Calls Tryz.prog 101 #[.int .u8 n] w fun e w'=>e=.returned (.bool (Zv n))∧w=w':=by
 go_enter Tryz.func101,Tryz.ntmps101
 go_wp2
 all_goals go_ret
 all_goals refine ⟨zaU ?_,rfl⟩
 all_goals (rw [Bool.eq_iff_iff];simp [Zv];try omega)
theorem uQ (c:UInt8):∀(l:List UInt8) (a:Nat),valA a (l++[c])=valA a l*10+(c.toNat-48)
 | [],_=>rfl
 | x::l,a=>uQ c l (a*10+(x.toNat-48))
theorem zcB (a b:List UInt8):∀acc,valA acc (a++b)=valA (valA acc a) b:=by
 induction a with
 | nil=>intro acc;rfl
 | cons x a ih=>intro acc;exact ih _
theorem zap (l:List UInt8) (i:Nat):valA 0 (l.take i)≤valA 0 l:=by
 have h:=zcB (l.take i) (l.drop i) 0;rw [List.take_append_drop] at h;rw [h];exact zah _ _
def zft (l:List UInt8):Int:=if valA 0 l<9223372036854775808 then ((valA 0 l:Nat):Int) else -1
theorem Vw (l:List UInt8) (w:World) (hl:l.length≤5000) (hd:∀c∈l,Zn c.toNat=true) :
  Calls Tryz.prog 104 #[.string (za l)] w fun e w'=>e=.returned (.int .i64 (zft l))∧w=w':=by
 have hs0:(za l).size=l.length:=rfl
 go_enter Tryz.func104,Tryz.ntmps104
 go_wp2
 go_loop [3,4] (fun vn vi=>∃i:Nat,i≤l.length∧vn=.int .i64 (valA 0 (l.take i):Nat)∧vi=.int .i64 i∧valA 0 (l.take i)<9223372036854775808) (fun _ vi=>l.length-(intOf vi).toNat)
 case atStart=>exact ⟨0,Nat.zero_le _,rfl,rfl,by rw [List.take_zero];decide⟩
 case round =>
  obtain ⟨i,hi,rfl,rfl,hlt63⟩:=hrel
  by_cases hlt:i<l.length
  ·have hidx:=fun wx=>YO wx l i hlt
   have hdc:=hd l[i] (List.getElem_mem hlt);have hsn:=uQ l[i] (l.take i) 0;rw [←List.take_succ_eq_append_getElem hlt] at hsn;have htk:=zap l (i+1);obtain ⟨c,hc⟩:∃c,c=(l[i]).toNat:=⟨_,rfl⟩;rw [←hc] at hidx hdc hsn
   unfold Zn at hdc
   rw [Bool.and_eq_true,decide_eq_true_eq,decide_eq_true_eq] at hdc;obtain ⟨d,rfl⟩:∃d,c=d+48:=⟨c-48,by omega⟩
   rw [Nat.add_sub_cancel] at hsn;have hd9:d≤9:=by omega
   obtain ⟨N,hN⟩:∃N,N=valA 0 (l.take i):=⟨_,rfl⟩;rw [←hN] at hsn hlt63 ⊢;have HN:Hid (N=valA 0 (l.take i)):=hN;have HSN:Hid (valA 0 (l.take (i+1))=N*10+d):=hsn;have HTK:Hid (valA 0 (l.take (i+1))≤valA 0 l):=htk;have hx1:((d+48:Nat):Int)=(d:Int)+48:=by omega
   simp only [hx1] at hidx;clear hN hsn htk hd hdc
   by_cases h63:N*10+d<9223372036854775808
   ·have hq:((9223372036854775807-(d:Int)).tdiv 10<(N:Int))=False:=by
     rw [Int.tdiv_eq_ediv_of_nonneg (by omega)];simp;omega
    go_wp2
    refine ⟨⟨i+1,by omega,?_,by go_num,by rw [HSN.out];exact h63⟩,?_⟩
    ·rw [HSN.out]
     congr 1
     omega
    ·simp [intOf];omega
   ·have HV:Hid (zft l=-1):=if_neg (by have:=HTK.out;rw [HSN.out] at this;omega)
    have hq:((9223372036854775807-(d:Int)).tdiv 10<(N:Int))=True:=by
     rw [Int.tdiv_eq_ediv_of_nonneg (by omega)];simp;omega
    go_wp2
    go_ret
    rw [HV.out];exact ⟨rfl,rfl⟩
  ·obtain rfl:i=l.length:=by omega
   rw [List.take_length] at hlt63 ⊢;have HV:Hid (zft l=((valA 0 l:Nat):Int)):=if_pos hlt63;clear hd;go_wp2
   go_ret
   rw [HV.out];exact ⟨rfl,rfl⟩
end Go.Proofs.YtpejpbbdgblbeaaGreatDoor
namespace Go.Proofs.YtpejpbbdgblbeaaGreatDoor
open Go.RowKit
set_option maxHeartbeats 16000000
set_option maxRecDepth 100000
theorem zcC {c:UInt8} (t:List UInt8) (h:Zj c.toNat=true):Yn (c::t)=Yn t+1:=by
 have e:yv Zj (c::t)=yv Zj t+1:=by
  unfold yv;rw [List.takeWhile_cons_of_pos (p:=fun c:UInt8=>Zj c.toNat) h,List.length_cons]
 rw [vv,vv t,e,List.drop_succ_cons];omega
theorem zfu {r:List UInt8} (h:XO r=true):Yn r=yv ZK r+Yn (r.drop (yv ZK r)):=by
 have e:yv Zj r=0:=by
  obtain ⟨t,rfl⟩:=QA h
  unfold yv
  rw [List.takeWhile_cons_of_neg (by decide)]
  rfl
 rw [vv,e,List.drop_zero,Nat.zero_add]
 unfold UA
 rw [if_pos h]
theorem U3 {c:UInt8} {t:List UInt8} (hb:Zj c.toNat=false) (hr:XO (c::t)=false):Yn (c::t)=0:=by
 have e:yv Zj (c::t)=0:=by
  unfold yv;rw [List.takeWhile_cons_of_neg (by simp [hb])];rfl
 rw [vv,e,List.drop_zero,Nat.zero_add]
 unfold UA
 rw [if_neg (by simp [hr])]
theorem uR {x:UInt8} {r:List UInt8}:XO (x::r)=(decide (x.toNat=47)&&(match r with | []=>false | y::_=>decide (y.toNat=47))):=by
 have key:∀y:UInt8,((47:UInt8)==y)=decide (y.toNat=47):=fun y=>by
  by_cases h:y=47
  ·subst h;rfl
  ·have h9:y.toNat≠47:=fun e=>h (UInt8.toNat_inj.1 e)
   rw [decide_eq_false h9,beq_eq_false_iff_ne];exact Ne.symm h
 unfold XO Lib.hasPrefix
 cases r with
 | nil=>simp [List.isPrefixOf]
 | cons y r=>simp only [List.isPrefixOf];rw [key,key,Bool.and_true]
theorem Xy (a b:List UInt8) (c:UInt8):Lib.countByte (a++b) c=Lib.countByte a c+Lib.countByte b c:=by
 unfold Lib.countByte
 exact List.count_append
theorem U4 {l:List UInt8} {line line' a b:Nat} (f:Nat) (hp:zM l a=zM l b) (hl:yr l line a=yr l line' b):scanS l f line a=scanS l f line' b:=by
 have hn:zV l a=zV l b:=by
  show Zc (l.drop (zM l a))=Zc (l.drop (zM l b))
  rw [hp]
 have ht:tkT l line a=tkT l line' b:=by
  unfold tkT
  rw [hn,hl,hp]
 cases f with
 | zero=>rfl
 | succ f =>
  unfold scanS
  rw [hn,ht,hl,hp]
theorem vR {l:List UInt8} {a:Nat} (f line:Nat) (h:a<l.length) (hb:Zj (l[a]).toNat=true) :
  scanS l f line a=scanS l f (if (l[a]).toNat=10 then line+1 else line) (a+1):=by
 have hd:l.drop a=l[a]::l.drop (a+1):=List.drop_eq_getElem_cons h;have hg:Yn (l.drop a)=Yn (l.drop (a+1))+1:=by rw [hd];exact zcC _ hb
 refine U4 f ?_ ?_
 ·unfold zM;omega
 ·unfold yr
  rw [hg,hd,List.take_succ_cons];show line+Lib.countByte ([l[a]]++(l.drop (a+1)).take (Yn (l.drop (a+1)))) 10=_
  rw [Xy]
  by_cases h10:(l[a]).toNat=10
  ·rw [if_pos h10]
   have:l[a]=10:=UInt8.toNat_inj.1 h10
   rw [this]
   have:Lib.countByte [10] 10=1:=by decide
   omega
  ·rw [if_neg h10]
   have h9:l[a]≠10:=fun e=>h10 (by rw [e];rfl)
   have:Lib.countByte [l[a]] 10=0:=by
    unfold Lib.countByte
    simp [h9]
   omega
theorem zeg (r:List UInt8):Lib.countByte (r.take (yv ZK r)) 10=0:=by
 unfold yv
 rw [XX]
 have key:∀c∈r.takeWhile (fun c=>ZK c.toNat),c≠10:=fun c hc=>by
  have:=Ve (p:=fun c=>ZK c.toNat) r c hc
  intro e;rw [e] at this;exact absurd this (by decide)
 generalize r.takeWhile (fun c=>ZK c.toNat)=x at key
 unfold Lib.countByte
 simp only [List.count_eq_zero];intro h;exact key 10 h rfl
theorem QL {l:List UInt8} {a:Nat} (f line:Nat) (h:XO (l.drop a)=true) :
  scanS l f line a=scanS l f line (a+yv ZK (l.drop a)):=by
 have hg:=zfu h;rw [List.drop_drop] at hg;refine U4 f ?_ ?_
 ·unfold zM;omega
 ·unfold yr
  rw [hg,List.take_add,Xy,zeg,List.drop_drop];omega
def YU (pre:List Tk) (X:List Tk × Nat × Nat):List Tk × Nat × Nat:=if X.2.2≠0 then ([],X.2.1,X.2.2) else (pre++X.1,0,0)
theorem zeh (f:Nat) (l:List UInt8) (line a:Nat):YU [] (scanS l f line a)=scanS l f line a:=by
 unfold YU
 cases f with
 | zero=>rfl
 | succ f =>
  rw [scanS]
  by_cases he:(zV l a).e≠0
  ·rw [if_pos he,if_pos he]
  ·rw [if_neg he]
   by_cases hk:(zV l a).k=0
   ·rw [if_pos hk];rfl
   ·rw [if_neg hk]
    generalize scanS l f (yr l line a) (zM l a+(zV l a).sz)=A
    by_cases hA:A.2.2≠0
    ·rw [if_pos hA,if_pos hA]
    ·rw [if_neg hA];rfl
theorem uS {l:List UInt8} {a:Nat} (f line:Nat) (pre:List Tk) (hg:Yn (l.drop a)=0) (ha:a<l.length) :
  ((Zc (l.drop a)).e≠0→YU pre (scanS l (f+1) line a)=([],a,(Zc (l.drop a)).e)) ∧
  ((Zc (l.drop a)).e=0→YU pre (scanS l (f+1) line a)=YU (pre++[⟨(Zc (l.drop a)).k,(Zc (l.drop a)).s,(Zc (l.drop a)).n,line,a⟩]) (scanS l f line (a+(Zc (l.drop a)).sz))∧1≤(Zc (l.drop a)).sz∧a+(Zc (l.drop a)).sz≤l.length):=by
 have hp:zM l a=a:=by unfold zM;rw [hg];rfl
 have hn:zV l a=Zc (l.drop a):=by show Zc (l.drop (zM l a))=_;rw [hp]
 have hl:yr l line a=line:=by unfold yr;rw [hg];rfl
 have ht:tkT l line a=⟨(Zc (l.drop a)).k,(Zc (l.drop a)).s,(Zc (l.drop a)).n,line,a⟩:=by unfold tkT;rw [hn,hl,hp]
 constructor
 ·intro he
  unfold scanS
  rw [hn,if_pos he,hp]
  unfold YU
  rw [if_pos he]
 ·intro he
  have hz:=uk (l.drop a) he
  have hk:(Zc (l.drop a)).k≠0:=fun hk=>by
   have h9:=hz.2.2 hk
   have:=congrArg List.length h9
   rw [List.length_drop,List.length_nil] at this;omega
  refine ⟨?_,hz.2.1 hk,by have:=hz.1;rw [List.length_drop] at this;omega⟩
  rw [scanS,hn,if_neg (by simp [he]),if_neg hk,hl,hp,ht]
  generalize scanS l f line (a+(Zc (l.drop a)).sz)=A
  unfold YU
  by_cases hA:A.2.2≠0
  ·rw [if_pos hA,if_pos hA,if_pos hA]
  ·rw [if_neg hA,if_neg (by simp),if_neg hA]
   simp
theorem zei (l:List UInt8) (f line:Nat) (pre:List Tk):YU pre (scanS l (f+1) line l.length)=(pre++[⟨0,[],0,line,l.length⟩],0,0):=by
 have hd:l.drop l.length=[]:=List.drop_length;have hp:zM l l.length=l.length:=by unfold zM;rw [hd,zbg];rfl
 have hn:zV l l.length=⟨0,[],0,0,0⟩:=by show Zc (l.drop (zM l l.length))=_;rw [hp,hd];rfl
 have hl:yr l line l.length=line:=by unfold yr;rw [hd,zbg];rfl
 have ht:tkT l line l.length=⟨0,[],0,line,l.length⟩:=by unfold tkT;rw [hn,hl,hp]
 unfold scanS
 rw [hn,if_neg (by simp),if_pos rfl,ht]
 rfl
def refSigns:List (List UInt8):=[[61,61],[33,61],[60,61],[62,61],[38,38],[124,124],[40],[41],[123],[125],[91],[93],[44],[58],[59],[46],[61],[60],[62],[43],[45],[42],[47],[37],[33]]
theorem zfv {l x y:List UInt8} (hx:Lib.hasPrefix l x=true) (hy:Lib.hasPrefix l y=true) (h:x.length=y.length):x=y:=by
 unfold Lib.hasPrefix at hx hy
 have h1:=List.prefix_iff_eq_take.1 (List.isPrefixOf_iff_prefix.1 hx);have h2:=List.prefix_iff_eq_take.1 (List.isPrefixOf_iff_prefix.1 hy);rw [h1,h2,h]
theorem zbh (l:List UInt8):∀(xs:List (List UInt8)) (b:List UInt8),b.length≤(xs.foldl (longer l) b).length∧(∀x∈xs,Lib.hasPrefix l x=true→x.length≤(xs.foldl (longer l) b).length) ∧
  (xs.foldl (longer l) b=b∨(xs.foldl (longer l) b∈xs∧Lib.hasPrefix l (xs.foldl (longer l) b)=true))
 | [],b=>⟨Nat.le_refl _,(fun x h=>by cases h),.inl rfl⟩
 | x::xs,b=>by
  rw [List.foldl_cons];obtain ⟨i1,i2,i3⟩:=zbh l xs (longer l b x)
  have hb:b.length≤(longer l b x).length:=by
   unfold longer
   split
   ·rename_i h;omega
   ·exact Nat.le_refl _
  refine ⟨Nat.le_trans hb i1,fun y hy hp=>?_,?_⟩
  ·rcases List.mem_cons.1 hy with rfl | hy
   ·refine Nat.le_trans ?_ i1
    unfold longer
    split
    ·exact Nat.le_refl _
    ·rename_i h
     rcases Nat.lt_or_ge b.length y.length with h9 | h9
     ·exact absurd ⟨h9,hp⟩ h
     ·exact h9
   ·exact i2 y hy hp
  ·rcases i3 with h | ⟨h1,h2⟩
   ·rw [h]
    unfold longer
    split
    ·rename_i h9;exact .inr ⟨List.mem_cons_self ..,h9.2⟩
    ·exact .inl rfl
   ·exact .inr ⟨List.mem_cons_of_mem _ h1,h2⟩
theorem un (l:List UInt8):(∀x∈signsL,Lib.hasPrefix l x=true→x.length≤(bestS l 25).length)∧(bestS l 25=[]∨(bestS l 25∈signsL∧Lib.hasPrefix l (bestS l 25)=true)):=by
 have h:=zbh l signsL [];have e:bestS l 25=signsL.foldl (longer l) []:=by unfold bestS;rw [List.take_of_length_le (by decide)]
 rw [e];exact h.2
theorem zfw {l:List UInt8} {i:Nat} (hi:i<refSigns.length) (hno:∀x∈refSigns.take i,Lib.hasPrefix l x=false) (hp:Lib.hasPrefix l (refSigns[i]'hi)=true):bestS l 25=refSigns[i]'hi:=by
 obtain ⟨h1,h2⟩:=un l;have m1:∀x∈refSigns,x∈signsL:=by decide
 have m2:∀x∈signsL,x∈refSigns:=by decide
 have m3:∀x∈refSigns,1≤x.length:=by decide
 have m4:∀(a:Nat) (ha:a<25) (b:Nat) (hb:b<25),a≤b→((refSigns[b]'hb).length≤(refSigns[a]'ha).length):=by decide
 have hge:=h1 _ (m1 _ (List.getElem_mem hi)) hp;have hpos:=m3 _ (List.getElem_mem hi);rcases h2 with h2 | ⟨h2,h3⟩
 ·rw [h2,List.length_nil] at hge
  omega
 ·obtain ⟨j,hj,he⟩:=List.getElem_of_mem (m2 _ h2)
  have hij:i≤j:=by
   rcases Nat.lt_or_ge j i with h | h
   ·have:=hno _ (List.mem_take_iff_getElem.2 ⟨j,by omega,rfl⟩)
    rw [he,h3] at this;cases this
   ·exact h
  have hle:=m4 i hi j hj hij;rw [he] at hle;exact zfv h3 hp (Nat.le_antisymm hle hge)
theorem zej {l:List UInt8} (hno:∀x∈refSigns,Lib.hasPrefix l x=false):bestS l 25=[]:=by
 obtain ⟨-,h2⟩:=un l;have m2:∀x∈signsL,x∈refSigns:=by decide
 rcases h2 with h2 | ⟨h2,h3⟩
 ·exact h2
 ·rw [hno _ (m2 _ h2)] at h3;cases h3
end Go.Proofs.YtpejpbbdgblbeaaGreatDoor
